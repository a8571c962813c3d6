import PyProof.Rows.All
import Wide.All
import OpenK.AllK
import Wide.FinOn
import Lean
import PyProof.EqAt
import PyProof.EqKinds
import PyProof.TupleCall
import PySem.Challenge.RW_lendyard_k06_whole_all_could
set_option Elab.async false
set_option linter.all false
set_option maxRecDepth 100000
set_option maxHeartbeats 4000000
set_option Elab.async false
set_option linter.all false
set_option maxRecDepth 100000
namespace L2
open PySem PySem.Spec PyProof.Rows

/-- a key: an int or a str -/
abbrev Key := Sum Int Str
def keyIs : Key → Value → Bool
  | .inl k, v => Value.isInt k v
  | .inr x, v => Value.isStrOf x v
def keyH (w : World) : Key → Int
  | .inl k => hashInt k
  | .inr x => hashStr w x
theorem keyIs_shape : ∀ {k : Key} {v : Value}, keyIs k v = true → (∃ i t, k = Sum.inl i ∧ v = Value.int i t) ∨ (∃ x t, k = Sum.inr x ∧ v = Value.str x t)
  | .inl i, v, h => by
    obtain ⟨t, e⟩ := Value.isInt_shape (k := i) (v := v) h
    exact .inl ⟨i, t, rfl, e⟩
  | .inr x, v, h => by
    obtain ⟨t, e⟩ := Value.isStrOf_shape (x := x) (v := v) h
    exact .inr ⟨x, t, rfl, e⟩
theorem key_ll (a b : Int) : decide ((Sum.inl a : Key) = Sum.inl b) = (a == b) := by
  by_cases e : a = b
  · subst e; simp
  · have h : ¬ (Sum.inl a : Key) = Sum.inl b := fun q => e (Sum.inl.inj q)
    rw [decide_eq_false h]
    exact (beq_eq_false_iff_ne.mpr e).symm
theorem key_rr (a b : Str) : decide ((Sum.inr a : Key) = Sum.inr b) = decide (a = b) := by
  by_cases e : a = b
  · subst e; simp
  · have h : ¬ (Sum.inr a : Key) = Sum.inr b := fun q => e (Sum.inr.inj q)
    rw [decide_eq_false h, decide_eq_false e]
theorem key_lr (a : Int) (b : Str) : decide ((Sum.inl a : Key) = Sum.inr b) = false := decide_eq_false (fun q => nomatch q)
theorem key_rl (a : Str) (b : Int) : decide ((Sum.inr a : Key) = Sum.inl b) = false := decide_eq_false (fun q => nomatch q)

def mixKind (prog : Program) (w : World) : PySem.KeyKind prog w Key where
  is := keyIs
  hash := keyH w
  inj := fun v a b ha hb => by
    rcases keyIs_shape ha with ⟨i, t, rfl, rfl⟩ | ⟨x, t, rfl, rfl⟩
    · rcases keyIs_shape hb with ⟨j, u, rfl, e⟩ | ⟨y, u, rfl, e⟩
      · injection e with e1 _; rw [e1]
      · exact nomatch e
    · rcases keyIs_shape hb with ⟨j, u, rfl, e⟩ | ⟨y, u, rfl, e⟩
      · exact nomatch e
      · injection e with e1 _; rw [e1]
  byValue := fun k v h => by
    rcases keyIs_shape h with ⟨i, t, rfl, rfl⟩ | ⟨x, t, rfl, rfl⟩ <;> rfl
  pyHash := fun hv h => by
    rcases keyIs_shape hv with ⟨i, t, rfl, rfl⟩ | ⟨x, t, rfl, rfl⟩
    · exact wpAny_pyHash_int h
    · exact wpAny_pyHash_str h
  eqBool := fun hu hv h => by
    rcases keyIs_shape hu with ⟨i, t, rfl, rfl⟩ | ⟨x, t, rfl, rfl⟩
    · rcases keyIs_shape hv with ⟨j, u, rfl, rfl⟩ | ⟨y, u, rfl, rfl⟩
      · rw [key_ll] at h; exact wpAny_eqBool_int h
      · rw [key_lr] at h; exact SeqAt.EqAt.int_str i t y u _ _ _ _ h
    · rcases keyIs_shape hv with ⟨j, u, rfl, rfl⟩ | ⟨y, u, rfl, rfl⟩
      · rw [key_rl] at h; exact SeqAt.EqAt.str_int x t j u _ _ _ _ h
      · rw [key_rr] at h; exact wpAny_eqBool_str h
  «strs» := fun k x t v h => by
    rcases keyIs_shape h with ⟨i, u, rfl, e⟩ | ⟨y, u, rfl, e⟩
    · exact nomatch e
    · injection e with e1 _
      subst e1
      cases v <;> rfl

end L2

namespace L2
open PySem PySem.Spec PyProof.Rows

/-- a value, without the heap -/
inductive V where
  | non | bl (b : Bool) | int (i : Int) | str (x : Str) | byt (b : Array UInt8) | flt (b : UInt64) | ref (a : Addr) | ty (n : String)
  deriving DecidableEq

def RelV : V → Value → Prop
  | .non, u => u = Value.none
  | .bl b, u => u = Value.bool b
  | .int i, u => ∃ t, u = Value.int i t
  | .str x, u => ∃ t, u = Value.str x t
  | .byt b, u => ∃ t, u = Value.bytes b t
  | .flt b, u => ∃ t, u = Value.float b t
  | .ref a, u => u = Value.ref a
  | .ty n, u => u = Value.type n

abbrev Vals : List V → List Value → Prop := Paired RelV
theorem Vals.length {xs : List V} {us : List Value} (r : Vals xs us) : xs.length = us.length := Paired.length r
theorem Vals.get : ∀ {xs : List V} {us : List Value} {i : Nat} {x : V}, Vals xs us → xs[i]? = some x → ∃ u, us[i]? = some u ∧ RelV x u
  | _, _, _, _, .nil, e => by simp at e
  | _, _, 0, _, .cons r _, e => by simp at e; subst e; exact ⟨_, rfl, r⟩
  | _, _, i + 1, x, .cons _ t, e => by
    obtain ⟨u, h1, h2⟩ := Vals.get (i := i) (x := x) t (by simpa using e)
    exact ⟨u, by simpa using h1, h2⟩
theorem Vals.set {x : V} {u : Value} (r : RelV x u) : ∀ {xs : List V} {us : List Value} (i : Nat), Vals xs us → Vals (xs.set i x) (us.set i u)
  | _, _, _, .nil => .nil
  | _, _, 0, .cons _ t => .cons r t
  | _, _, i + 1, .cons q t => .cons q (Vals.set r i t)
theorem Vals.append : ∀ {xs ys : List V} {us ws : List Value}, Vals xs us → Vals ys ws → Vals (xs ++ ys) (us ++ ws)
  | _, _, _, _, .nil, s => s
  | _, _, _, _, .cons r t, s => .cons r (Vals.append t s)
theorem Vals.take : ∀ {xs : List V} {us : List Value} (n : Nat), Vals xs us → Vals (xs.take n) (us.take n)
  | _, _, 0, _ => .nil
  | _, _, _ + 1, .nil => .nil
  | _, _, n + 1, .cons r t => .cons r (Vals.take n t)
theorem Vals.drop : ∀ {xs : List V} {us : List Value} (n : Nat), Vals xs us → Vals (xs.drop n) (us.drop n)
  | _, _, 0, r => r
  | _, _, _ + 1, .nil => .nil
  | _, _, n + 1, .cons _ t => Vals.drop n t

def RelO : Option V → Option Value → Prop
  | some v, some u => RelV v u
  | none, none => True
  | _, _ => False
def KV {κ : Type} : List (κ × V) → List (κ × Value) → Prop := Paired fun (p : κ × V) (q : κ × Value) => p.1 = q.1 ∧ RelV p.2 q.2

/-- a key of a dict (00_mix): an int or a text -/
def kV : Key → V
  | .inl i => .int i
  | .inr x => .str x

/-- what stands at a tracked address -/
inductive HO where
  /-- a list -/
  | lst (xs : List V)
  /-- a tuple (never changes) -/
  | tup (xs : List V)
  /-- a dict whose keys are ints and texts; one whose keys are tuples of ints and texts (the empty one is both) -/
  | dK (kvs : List (Key × V)) | dT (kvs : List (List Key × V))
  /-- a set of ints: its members, its size -/
  | set (S : Int → Bool) (n : Nat)
  /-- an instance of the class at C, its dict at dx, its attributes -/
  | ins (C dx : Addr) (fs : List (Str × V))
  /-- the dict of the instance at x -/
  | own (x : Addr)
  /-- the dict of an exception -/
  | xd (fs : List (Str × V))
  /-- a bound method, f of x -/
  | met (f x : Addr)
  /-- a range object lo, lo + 1, .. below hi -/
  | rng (lo hi : Int)
  /-- a thing that is known to the object (the script; a dict while a loop walks it): read, never written while it is so -/
  | frz (o : Obj) (u : HO)
  /-- a code object's table -/
  | tbl (ps : Array Value)
  /-- any other thing, by what is true of its one object (a def of one's own: SetO a S n := HO.ext fun h => ..) -/
  | ext (φ : Heap → Prop)

abbrev Hp := Addr → Option HO
def upd (H : Hp) (a : Addr) (o : HO) : Hp := fun b => if b = a then some o else H b
theorem upd_same {H : Hp} {a : Addr} {o : HO} : upd H a o a = some o := by unfold upd; rw [if_pos rfl]
theorem upd_ne {H : Hp} {a b : Addr} {o : HO} (h : b ≠ a) : upd H a o b = H b := by unfold upd; rw [if_neg h]
theorem upd_upd {H : Hp} {a : Addr} {o u : HO} : upd (upd H a o) a u = upd H a u := by
  funext b; unfold upd; split <;> rfl
theorem ne_of_none {H : Hp} {a b : Addr} {o : HO} (h : H a = some o) (h' : H b = none) : a ≠ b := by
  intro e; subst e; rw [h] at h'; cases h'

section
variable (P : Program) (w : World)
def ObjOk (H : Hp) (h : Heap) (a : Addr) : HO → Prop
  | .lst xs => xs.length ≤ sizeLine ∧ ∃ (its : List Value) (n : Nat), Vals xs its ∧ h.get? a = some { cls := .type "list", data := .seq its.toArray n }
  | .tup xs => xs.length ≤ sizeLine ∧ ∃ its : List Value, Vals xs its ∧ IsTup h a its.toArray
  | .dK kvs => kvs.length ≤ sizeLine ∧ (a == sysModules) = false ∧ ∃ vs, KV kvs vs ∧ h.DictOf (mixKind P w) a vs
  | .dT kvs => kvs.length ≤ sizeLine ∧ (a == sysModules) = false ∧ ∃ xs : List (List Key × Addr × Value),
      Paired (fun (p : List Key × V) (q : List Key × Addr × Value) => p.1 = q.1 ∧ H q.2.1 = some (.tup (p.1.map kV)) ∧ RelV p.2 q.2.2) kvs xs ∧
      ∃ o es ep, h.get? a = some o ∧ o.ExactDict ∧ o.data = .dict es ep ∧ es.toList = xs.map (entryOfKey (tupleKind (mixKind P w))) ∧ (xs.map (·.1)).Nodup
  | .set S n => h.SetOf (intKind P w) a S n
  | .ins C dx fs => H dx = some (.own a) ∧ fs.length ≤ 1000 ∧ dx ≠ a ∧ h.get? a = some (PySem.W.instObj C dx) ∧
      ∃ mA, h.Ns1 dx mA ∧ (∀ f, RelO (fs.lookup f) (mA f)) ∧ PySem.Within mA (fs.map (·.1))
  | .own _ => ∃ o, h.get? a = some o
  | .xd fs => ∃ mA, h.Ns1 a mA ∧ ∀ f, RelO (fs.lookup f) (mA f)
  | .rng lo hi => ∃ t u v, h.get? a = some { cls := .type "range", data := .fields #[.int lo t, .int hi u, .int 1 v] }
  | .frz o u => h.get? a = some o ∧ ObjOk H h a u
  | .tbl ps => h.get? a = some { cls := .none, data := .fields ps }
  | .met f x => h.get? a = some (PySem.W.methodObj (.ref f) (.ref x))
  | .ext φ => φ h ∧ (∃ o, h.get? a = some o) ∧ ∀ h1 h2 : Heap, φ h1 → (∀ o, h1.get? a = some o → h2.get? a = some o) → φ h2
/-- the abstract heap is held -/
def HOk (H : Hp) (h : Heap) : Prop := ∀ a o, H a = some o → ObjOk P w H h a o
end

section
variable {P : Program} {w : World} {H H' : Hp} {h h' : Heap} {a : Addr} {o : HO}
theorem ObjOk.lt (x : ObjOk P w H h a o) : a < h.objs.size := by
  cases o with
  | lst xs => obtain ⟨_, _, _, _, e⟩ := x; exact Heap.lt_size e
  | tup xs => obtain ⟨_, _, _, p⟩ := x; exact p.lt
  | dK kvs => obtain ⟨_, _, _, _, o, _, _, e, _⟩ := x; exact Heap.lt_size e
  | dT kvs => obtain ⟨_, _, _, _, o, _, _, e, _⟩ := x; exact Heap.lt_size e
  | set S n => obtain ⟨o, _, _, _, e, _⟩ := x; exact Heap.lt_size e
  | ins C dx fs => obtain ⟨_, _, _, e, _⟩ := x; exact Heap.lt_size e
  | own y => obtain ⟨_, e⟩ := x; exact Heap.lt_size e
  | xd fs => obtain ⟨_, ⟨_, _, _, e, _⟩, _⟩ := x; exact Heap.lt_size e
  | rng lo hi => obtain ⟨_, _, _, e⟩ := x; exact Heap.lt_size e
  | frz ob u => obtain ⟨e, _⟩ := x; exact Heap.lt_size e
  | tbl ps => exact Heap.lt_size (show h.get? a = some _ from x)
  | met f y => exact Heap.lt_size (show h.get? a = some _ from x)
  | ext φ => obtain ⟨_, ⟨_, e⟩, _⟩ := x; exact Heap.lt_size e
theorem Paired.mapP {α β : Type} {F G : α → β → Prop} : ∀ {l₁ : List α} {l₂ : List β}, Paired F l₁ l₂ → (∀ a b, F a b → G a b) → Paired G l₁ l₂
  | _, _, .nil, _ => .nil
  | _, _, .cons r t, f => .cons (f _ _ r) (Paired.mapP t f)
/-- what an object's description leans on: its own object, its own dict, the tuples -/
theorem ObjOk.stay (x : ObjOk P w H h a o) (k : ∀ b u, (b = a ∨ H b = some (.own a)) → h.get? b = some u → h'.get? b = some u)
    (ho : ∀ b, H b = some (.own a) → H' b = some (.own a)) (ht : ∀ b xs, H b = some (.tup xs) → H' b = some (.tup xs)) : ObjOk P w H' h' a o := by
  induction o with
  | lst xs => obtain ⟨z, its, n, r, e⟩ := x; exact ⟨z, its, n, r, k _ _ (.inl rfl) e⟩
  | tup xs => obtain ⟨z, its, r, ob, e, c⟩ := x; exact ⟨z, its, r, ob, k _ _ (.inl rfl) e, c⟩
  | dK kvs => obtain ⟨z, y, vs, r, ob, es, ep, e, c⟩ := x; exact ⟨z, y, vs, r, ob, es, ep, k _ _ (.inl rfl) e, c⟩
  | dT kvs =>
    obtain ⟨z, y, xs, r, ob, es, ep, e, c⟩ := x
    exact ⟨z, y, xs, Paired.mapP r fun p q z => ⟨z.1, ht _ _ z.2.1, z.2.2⟩, ob, es, ep, k _ _ (.inl rfl) e, c⟩
  | set S n => obtain ⟨ob, es, ep, t, e, c⟩ := x; exact ⟨ob, es, ep, t, k _ _ (.inl rfl) e, c⟩
  | ins C dx fs =>
    obtain ⟨d, z, ne, e, mA, ⟨od, es, ep, e2, c⟩, r⟩ := x
    exact ⟨ho _ d, z, ne, k _ _ (.inl rfl) e, mA, ⟨od, es, ep, k _ _ (.inr d) e2, c⟩, r⟩
  | own y => obtain ⟨ob, e⟩ := x; exact ⟨ob, k _ _ (.inl rfl) e⟩
  | xd fs => obtain ⟨mA, ⟨od, es, ep, e, c⟩, r⟩ := x; exact ⟨mA, ⟨od, es, ep, k _ _ (.inl rfl) e, c⟩, r⟩
  | rng lo hi => obtain ⟨t, u, v, e⟩ := x; exact ⟨t, u, v, k _ _ (.inl rfl) e⟩
  | frz ob u ih => obtain ⟨e, q⟩ := x; exact ⟨k _ _ (.inl rfl) e, ih q⟩
  | tbl ps =>
    have e : h.get? a = some { cls := .none, data := .fields ps } := x
    show h'.get? a = some { cls := .none, data := .fields ps }
    exact k a _ (.inl rfl) e
  | met f y =>
    have e : h.get? a = some (PySem.W.methodObj (.ref f) (.ref y)) := x
    show h'.get? a = some (PySem.W.methodObj (.ref f) (.ref y))
    exact k a _ (.inl rfl) e
  | ext φ => obtain ⟨p, ⟨o, e⟩, st⟩ := x; exact ⟨st _ _ p fun o q => k _ _ (.inl rfl) q, ⟨o, k _ _ (.inl rfl) e⟩, st⟩
theorem HOk.lt (x : HOk P w H h) (e : H a = some o) : a < h.objs.size := (x a o e).lt
theorem HOk.fresh (x : HOk P w H h) (e : h.objs.size ≤ a) : H a = none := by
  cases q : H a with
  | none => rfl
  | some u => exact absurd (Nat.lt_of_lt_of_le (x.lt q) e) (Nat.lt_irrefl _)
/-- every object of the heap is kept -/
theorem HOk.kept (x : HOk P w H h) (k : ∀ b u, h.get? b = some u → h'.get? b = some u) : HOk P w H h' := fun a o e =>
  (x a o e).stay (fun b u _ q => k b u q) (fun _ q => q) fun _ _ q => q
/-- a new object is laid and tracked -/
theorem HOk.laid (x : HOk P w H h) (k : ∀ b u, h.get? b = some u → h'.get? b = some u) (hp : h.objs.size ≤ a) (new : ObjOk P w (upd H a o) h' a o) : HOk P w (upd H a o) h' := fun b u e => by
  have hn := x.fresh hp
  by_cases hb : b = a
  · subst hb; rw [upd_same] at e; cases e; exact new
  · rw [upd_ne hb] at e
    exact (x b u e).stay (fun c v _ q => k c v q) (fun c q => by rw [upd_ne (ne_of_none q hn)]; exact q) fun c xs q => by rw [upd_ne (ne_of_none q hn)]; exact q
end

/-- what may be read as u: it is u, or a known u -/
def Rd (H : Hp) (a : Addr) (u : HO) : Prop := H a = some u ∨ ∃ o, H a = some (.frz o u)
theorem Rd.ok {P : Program} {w : World} {H : Hp} {h : Heap} {a : Addr} {u : HO} (r : Rd H a u) (x : HOk P w H h) : ObjOk P w H h a u := by
  rcases r with r | ⟨o, r⟩
  · exact x a u r
  · obtain ⟨_, q⟩ := x a _ r
    exact q
/-- what may be written -/
def Mut : Option HO → Prop
  | some (.lst _) => True
  | some (.dK _) => True
  | some (.dT _) => True
  | some (.set _ _) => True
  | some (.ins _ _ _) => True
  | some (.ext _) => True
  | _ => False
section
variable {P : Program} {w : World} {H : Hp} {h h' : Heap} {x e : Addr} {o' : HO}
/-- the object at e is changed: x itself, or the dict of the instance x -/
theorem HOk.write (ok : HOk P w H h) (mu : Mut (H x)) (he : e = x ∨ H e = some (.own x)) (k : ∀ b u, b ≠ e → h.get? b = some u → h'.get? b = some u) (heo : ∃ u, h'.get? e = some u)
    (new : ObjOk P w (upd H x o') h' x o') : HOk P w (upd H x o') h' := fun b u q => by
  have nown : ∀ c y, H c = some (.own y) → c ≠ x := fun c y r z => by subst z; rw [r] at mu; exact mu
  have ntup : ∀ c xs, H c = some (.tup xs) → c ≠ x := fun c xs r z => by subst z; rw [r] at mu; exact mu
  by_cases hb : b = x
  · subst hb; rw [upd_same] at q; cases q; exact new
  · rw [upd_ne hb] at q
    by_cases hbe : b = e
    · have q' : H b = some (.own x) := by
        rcases he with z | z
        · exact absurd (hbe.trans z) hb
        · rw [hbe]; exact z
      rw [q] at q'; cases q'
      obtain ⟨v, hv⟩ := heo
      exact ⟨v, by rw [hbe]; exact hv⟩
    · refine (ok b u q).stay (fun c v hc r => k c v ?_ r) (fun c r => by rw [upd_ne (nown c b r)]; exact r) fun c xs r => by rw [upd_ne (ntup c xs r)]; exact r
      rcases hc with rfl | hc
      · exact hbe
      · rintro rfl
        rcases he with z | z
        · exact nown c b hc z
        · rw [hc] at z; cases z; exact hb rfl
end

/-! ### kept unless tracked; of the frames at fs (the callers') the slots may change (an exception that passes writes there); of the records at ex (iterators) nothing is said -/
structure Un (fs ex : List Addr) (H H' : Hp) (h h' : Heap) : Prop where
  keep : ∀ b o, h.get? b = some o → H b = none → b ∉ fs → b ∉ ex → h'.get? b = some o
  slot : ∀ b o, h.get? b = some o → H b = none → b ∈ fs → b ∉ ex → ∃ sl, h'.get? b = some { o with slots := sl }
  free : ∀ b o, h.get? b = some o → H b = none → b ∉ ex → H' b = none
  there : ∀ b o, h.get? b = some o → b ∉ ex → ∃ o', h'.get? b = some o'
  tups : ∀ b xs, H b = some (.tup xs) → H' b = some (.tup xs)
  frzs : ∀ b o u, H b = some (.frz o u) → H' b = some (.frz o u)
  tbls : ∀ b ps, H b = some (.tbl ps) → ∃ more, H' b = some (.tbl (ps ++ more))
section
variable {fs fs' ex ex' : List Addr} {H H1 H2 : Hp} {h h1 h2 h' : Heap} {a x e : Addr} {o : HO}
theorem Un.any (u : Un fs ex H H1 h h1) {b : Addr} {ob : Obj} (q : h.get? b = some ob) (n : H b = none) (hx : b ∉ ex) : ∃ sl, h1.get? b = some { ob with slots := sl } := by
  by_cases hb : b ∈ fs
  · exact u.slot b ob q n hb hx
  · exact ⟨ob.slots, u.keep b ob q n hb hx⟩
theorem Un.kept (k : ∀ b u, h.get? b = some u → h'.get? b = some u) : Un fs ex H H h h' :=
  ⟨fun b ob q _ _ _ => k b ob q, fun b ob q _ _ _ => ⟨ob.slots, k b ob q⟩, fun _ _ _ n _ => n, fun b ob q _ => ⟨ob, k b ob q⟩, fun _ _ q => q, fun _ _ _ q => q, fun _ ps q => ⟨#[], by rw [q]; simp⟩⟩
theorem Un.refl : Un fs ex H H h h := Un.kept fun _ _ q => q
theorem Un.laid (k : ∀ b u, h.get? b = some u → h'.get? b = some u) (hp : h.objs.size ≤ a) (hn : H a = none) : Un fs ex H (upd H a o) h h' where
  keep := fun b u q _ _ _ => k b u q
  slot := fun b u q _ _ _ => ⟨u.slots, k b u q⟩
  free := fun b u q n _ => by rw [upd_ne (Nat.ne_of_lt (Nat.lt_of_lt_of_le (Heap.lt_size q) hp))]; exact n
  there := fun b u q _ => ⟨u, k b u q⟩
  tups := fun b xs q => by rw [upd_ne (ne_of_none q hn)]; exact q
  frzs := fun b u xs q => by rw [upd_ne (ne_of_none q hn)]; exact q
  tbls := fun b ps q => ⟨#[], by rw [upd_ne (ne_of_none q hn), q]; simp⟩
theorem Un.write (mu : Mut (H x)) (he : e = x ∨ H e = some (.own x)) (k : ∀ b u, b ≠ e → h.get? b = some u → h'.get? b = some u) (heo : ∃ u, h'.get? e = some u) : Un fs ex H (upd H x o) h h' := by
  have hx : ∀ b, H b = none → b ≠ x := fun b n z => by subst z; rw [n] at mu; exact mu
  have hb : ∀ b, H b = none → b ≠ e := fun b n z => by
    subst z
    rcases he with r | r
    · exact hx b n r
    · rw [n] at r; cases r
  have hm : ∀ b u, H b = some u → ¬ Mut (some u) → b ≠ x := fun b u q nm z => by subst z; rw [q] at mu; exact nm mu
  refine ⟨fun b u q n _ _ => k b u (hb b n) q, fun b u q n _ _ => ⟨u.slots, k b u (hb b n) q⟩, fun b u q n _ => by rw [upd_ne (hx b n)]; exact n, fun b u q _ => ?_,
    fun b xs q => by rw [upd_ne (hm b _ q fun z => z)]; exact q, fun b u xs q => by rw [upd_ne (hm b _ q fun z => z)]; exact q, fun b ps q => ⟨#[], by rw [upd_ne (hm b _ q fun z => z), q]; simp⟩⟩
  by_cases hbe : b = e
  · subst hbe; exact heo
  · exact ⟨u, k b u hbe q⟩
end

/-! ### the heap without what is tracked -/
def trk (h : Heap) (H : Hp) : List Addr := (List.range h.objs.size).filter fun a => (H a).isSome
def hidT (h : Heap) (H : Hp) : Heap := PySem.W.hideAll h (trk h H)
theorem hidT_size (h : Heap) (H : Hp) : (hidT h H).objs.size = h.objs.size := PySem.W.hideAll_size _ _
theorem hidT_get {h : Heap} {H : Hp} {b : Addr} {o : Obj} (e : h.get? b = some o) (n : H b = none) : (hidT h H).get? b = some o :=
  PySem.W.hideAll_get _ e fun hm => by
    have q : (H b).isSome = true := (List.mem_filter.mp hm).2
    rw [n] at q; simp at q
theorem of_hidT {h : Heap} {H : Hp} {b : Addr} {o : Obj} (e : (hidT h H).get? b = some o) : h.get? b = some o ∧ H b = none := by
  have e' : h.get? b = some o := PySem.W.of_hideAll (trk h H) e
  refine ⟨e', ?_⟩
  cases q : H b with
  | none => rfl
  | some x =>
    have hm : b ∈ trk h H := List.mem_filter.mpr ⟨List.mem_range.mpr (Heap.lt_size e'), by simp [q]⟩
    have z : (hidT h H).get? b = none := PySem.W.hideAll_none (trk h H) hm
    rw [z] at e; cases e

/-! ### OpenK's ledger, filled with every new object but one -/
end L2

namespace L2
open PySem PySem.Spec PyProof.Rows

/-- the module's facts, over the base: the heap at the law's entry without what is tracked there -/
structure Mod (K : PySem.W.Frag) (mg : Str → Option Value) (base : Heap) : Prop where
  kin : K.In base
  glob : base.Ns mainGlobals mg
  blt : ∃ mb, base.Ns builtinsNs mb ∧ ∀ x : Str, x ≠ "__name__" → mb x = bootBuiltins x
  nolimit : base.NoLimit

/-- the context: a def's body (or a comprehension's block) running. base: fixed through the whole law; s₀, H₀: the entry; outer: the frames whose slots others may change (a def's callers); stack: all frames that run;
   ex: iterators that were made ahead of the entry and are walked here (a comprehension's); fn: the names whose cells were made at the entry (a def: all; a comprehension's block: its own); calm: not within an except suite; pn: pins that every state bears; xe: what is wanted of an exception that leaves the code -/
structure Cx where
  prog : Program
  w : World
  K : PySem.W.Frag
  mg : Str → Option Value
  base : Heap
  A : Around
  N : List Str
  s₀ : Shared
  H₀ : Hp
  env : Env
  outer : List Env
  stack : List Env
  ex : List Addr
  fn : Str → Bool
  calm : Bool
  pn : List (Addr × Obj)
  xe : Value → Shared → Prop
/-- the callers' frames -/
def frs (l : List Env) : List Addr := l.filterMap (·.frame)
abbrev Cx.fs (X : Cx) : List Addr := frs X.outer

def Vis (sc : Scope) (x : Str) : Prop := sc.names.lookup x = some .local ∨ sc.names.lookup x = some .cell ∨ sc.names.lookup x = some .free
def Loc (sc : Scope) (x : Str) : Prop := sc.names.lookup x = some .local ∨ sc.names.lookup x = some .cell
def Look (env : Env) (h : Heap) (m : Str → Option Value) (x : Str) (u : Value) : Prop :=
  (env.kindOf x = some .local ∧ m x = some u) ∨ ((env.kindOf x = some .cell ∨ env.kindOf x = some .free) ∧ ∃ c, env.cells.lookup x = some c ∧ h.IsCell c (some u))

structure Cx.Ok (X : Cx) : Prop where
  mod : Mod X.K X.mg X.base
  kind : X.env.scope.kind = .function
  glob : X.env.globals = mainGlobals
  blt : X.env.builtins = builtinsNs
  above : X.s₀.heap.objs.size ≤ X.env.locals
  inj : ∀ x y c, X.env.cells.lookup x = some c → X.env.cells.lookup y = some c → x = y
  has : ∀ x, (X.env.kindOf x = some .cell ∨ X.env.kindOf x = some .free) → ∃ c, X.env.cells.lookup x = some c
  cab : ∀ x c, X.fn x = true → X.env.cells.lookup x = some c → X.s₀.heap.objs.size ≤ c
  hd : X.calm = true → X.A.handled = none
  frames : X.A.frames = some X.stack
  stk : X.stack = X.outer ∨ (X.stack = X.env :: X.outer ∧ X.env.frame = some X.env.locals)
  exf : ∀ b ∈ X.ex, b ≠ X.env.locals ∧ ∀ x c, X.env.cells.lookup x = some c → c ≠ b
  bs : ∀ b o, X.base.get? b = some o → X.s₀.heap.get? b = some o ∧ X.H₀ b = none
  bsz : X.base.objs.size ≤ X.s₀.heap.objs.size
  noex : ∀ b o, X.base.get? b = some o → b ∉ X.ex
  exfs : ∀ b ∈ X.ex, b ∉ X.fs
  funs : X.s₀.heap.FunFrames X.base X.outer
  frf : ∀ b ∈ X.fs, X.H₀ b = none

structure Inv (X : Cx) (pins : List (Addr × Obj)) (σ : List (Option V)) (H : Hp) (s : Shared) : Prop where
  ok : X.Ok
  os : s.os = X.s₀.os
  bare : AllBare s.gens
  base : Un X.fs X.ex X.H₀ H X.s₀.heap s.heap
  loc : ∃ m, s.heap.Ns X.env.locals m ∧ ∀ (i : Nat) (x : Str) (v : V), X.N[i]? = some x → σ[i]? = some (some v) → Vis X.env.scope x → ∃ u, RelV v u ∧ Look X.env s.heap m x u
  cell : ∀ x c, X.env.cells.lookup x = some c → ∃ v, s.heap.IsCell c v
  free : H X.env.locals = none
  freeC : ∀ x c, X.env.cells.lookup x = some c → H c = none
  pin : ∀ p ∈ X.pn ++ pins, s.heap.get? p.1 = some p.2 ∧ H p.1 = none ∧ p.1 ≠ X.env.locals ∧ p.1 ∉ X.fs ∧ ∀ v, p.2.data ≠ .cell v
  hok : HOk X.prog X.w H s.heap
  len : σ.length = X.N.length

section
variable {X : Cx} {pins : List (Addr × Obj)} {σ : List (Option V)} {H H' : Hp} {s : Shared} {h' : Heap}

theorem Cx.Ok.nofr (ok : X.Ok) {b : Addr} {o : Obj} (e : X.base.get? b = some o) : b ∉ X.fs := fun hb => by
  have := (ok.funs.mem hb).1
  rw [e] at this; cases this
theorem Inv.bs (I : Inv X pins σ H s) : ∀ b o, X.base.get? b = some o → s.heap.get? b = some o ∧ H b = none := fun b o e =>
  ⟨I.base.keep b o (I.ok.bs b o e).1 (I.ok.bs b o e).2 (I.ok.nofr e) (I.ok.noex b o e), I.base.free b o (I.ok.bs b o e).1 (I.ok.bs b o e).2 (I.ok.noex b o e)⟩
theorem Inv.bk (I : Inv X pins σ H s) : ∀ b o, X.base.get? b = some o → s.heap.get? b = some o := fun b o e => (I.bs b o e).1
theorem Inv.mod (I : Inv X pins σ H s) : Mod X.K X.mg X.base := I.ok.mod
theorem Inv.kIn (I : Inv X pins σ H s) : X.K.In s.heap := I.ok.mod.kin.keeps I.bk
/-- the frame over the base: for OpenK's rules (K.In X.base is I.mod.kin) -/
theorem Inv.fr (I : Inv X pins σ H s) : ∃ m, Fr X.base X.env.locals s.heap m :=
  let ⟨m, hn, _⟩ := I.loc
  ⟨m, hn, I.bk, Nat.le_trans I.ok.bsz I.ok.above⟩
theorem Inv.lt (I : Inv X pins σ H s) : X.env.locals < s.heap.objs.size := let ⟨_, hn, _⟩ := I.loc; hn.lt
theorem Inv.sz (I : Inv X pins σ H s) : X.s₀.heap.objs.size ≤ s.heap.objs.size := Nat.le_trans I.ok.above (Nat.le_of_lt I.lt)
theorem Inv.nofs (I : Inv X pins σ H s) {a : Addr} (h : s.heap.objs.size ≤ a) : a ∉ X.fs := fun hb => by
  obtain ⟨_, o, ho, _⟩ := I.ok.funs.mem hb
  exact absurd (Nat.lt_of_lt_of_le (Heap.lt_size ho) (Nat.le_trans I.sz h)) (Nat.lt_irrefl _)
theorem Inv.cne (I : Inv X pins σ H s) : ∀ x c, X.env.cells.lookup x = some c → c ≠ X.env.locals := fun x c e z => by
  obtain ⟨v, o, ho, hd⟩ := I.cell x c e
  obtain ⟨m, ⟨o', es, ep, ho', hd', _⟩, _⟩ := I.loc
  rw [z, ho'] at ho; cases ho; rw [hd'] at hd; cases hd
theorem Inv.funs (I : Inv X pins σ H s) : s.heap.FunFrames X.base X.outer := by
  have all : ∀ (l : List Env), (∀ b ∈ frs l, b ∈ X.fs) → X.s₀.heap.FunFrames X.base l → s.heap.FunFrames X.base l := by
    intro l
    induction l with
    | nil => intro _ _; trivial
    | cons env r ih =>
      intro hs hl
      obtain ⟨hk, ⟨L, o, hf, hn, ho, hd⟩, hr⟩ := hl
      have hL : L ∈ X.fs := hs L (by unfold frs; rw [List.filterMap_cons, hf]; exact List.mem_cons_self)
      obtain ⟨sl, e⟩ := I.base.slot L o ho (I.ok.frf L hL) hL fun z => I.ok.exfs L z hL
      exact ⟨hk, ⟨L, _, hf, hn, e, hd⟩, ih (fun b hb => hs b (by unfold frs; rw [List.filterMap_cons, hf]; exact List.mem_cons_of_mem _ hb)) hr⟩
  exact all X.outer (fun _ hb => hb) I.ok.funs

/-- the frames that run, for a call -/
theorem Inv.stack (I : Inv X pins σ H s) : s.heap.FunFrames X.base X.stack := by
  rcases I.ok.stk with e | ⟨e, hf⟩
  · rw [e]; exact I.funs
  · rw [e]
    obtain ⟨m, hn, _⟩ := I.loc
    refine .cons (by rw [I.ok.kind]; decide) hf hn ?_ I.funs
    exact Heap.get?_none_of_le (Nat.le_trans I.ok.bsz I.ok.above)
theorem Inv.stkSub (I : Inv X pins σ H s) : ∀ b ∈ frs X.stack, b ∈ X.env.locals :: X.fs := fun b hb => by
  rcases I.ok.stk with e | ⟨e, hf⟩
  · rw [e] at hb; exact List.mem_cons_of_mem _ hb
  · rw [e] at hb
    unfold frs at hb
    rw [List.filterMap_cons, hf] at hb
    exact hb
theorem Inv.stkFree (I : Inv X pins σ H s) : ∀ b ∈ frs X.stack, H b = none := fun b hb => by
  rcases List.mem_cons.mp (I.stkSub b hb) with e | hb
  · rw [e]; exact I.free
  · obtain ⟨_, o, ho, _⟩ := I.ok.funs.mem hb
    exact I.base.free b o ho (I.ok.frf b hb) fun z => I.ok.exfs b z hb

/-- THE STEP: the untracked objects but the frame and the records at ch are kept (the callers' frames up to slots), the frame's map is kept, the new abstract heap is held -/
theorem Inv.step {g' : Array GenState} {t' : Nat} {d' : Drawn} {ch : List Addr} (I : Inv X pins σ H s)
    (hch : ∀ b ∈ ch, (b ∈ X.ex ∨ X.s₀.heap.objs.size ≤ b) ∧ b ≠ X.env.locals ∧ (∀ x c, X.env.cells.lookup x = some c → c ≠ b) ∧ ∀ p ∈ X.pn ++ pins, p.1 ≠ b)
    (keep : ∀ b o, b ≠ X.env.locals → b ∉ X.fs → b ∉ ch → s.heap.get? b = some o → H b = none → h'.get? b = some o)
    (slot : ∀ b o, b ≠ X.env.locals → b ∈ X.fs → b ∉ ch → s.heap.get? b = some o → H b = none → ∃ sl, h'.get? b = some { o with slots := sl }) (free : ∀ b o, b ∉ ch → s.heap.get? b = some o → H b = none → H' b = none)
    (there : ∀ b o, b ∉ ch → s.heap.get? b = some o → ∃ o', h'.get? b = some o')
    (tups : ∀ b xs, H b = some (.tup xs) → H' b = some (.tup xs)) (frzs : ∀ b o u, H b = some (.frz o u) → H' b = some (.frz o u)) (tbls : ∀ b ps, H b = some (.tbl ps) → ∃ more, H' b = some (.tbl (ps ++ more)))
    (ns : ∀ m, s.heap.Ns X.env.locals m → h'.Ns X.env.locals m) (hok : HOk X.prog X.w H' h') (hg : AllBare g') :
    Inv X pins σ H' { s with heap := h', gens := g', drawn := d', toks := t' } := by
  have neL : ∀ b o, X.s₀.heap.get? b = some o → b ≠ X.env.locals := fun b o e => Nat.ne_of_lt (Nat.lt_of_lt_of_le (Heap.lt_size e) I.ok.above)
  have neC : ∀ b o, X.s₀.heap.get? b = some o → b ∉ X.ex → b ∉ ch := fun b o e hx hb => by
    rcases (hch b hb).1 with z | z
    · exact hx z
    · exact absurd (Nat.lt_of_lt_of_le (Heap.lt_size e) z) (Nat.lt_irrefl _)
  have cellK : ∀ x c, X.env.cells.lookup x = some c → ∀ v, s.heap.IsCell c v → h'.IsCell c v := fun x c e v ⟨o, ho, hd⟩ => by
    have nch : c ∉ ch := fun z => (hch c z).2.2.1 x c e rfl
    by_cases hc : c ∈ X.fs
    · obtain ⟨sl, q⟩ := slot c o (I.cne x c e) hc nch ho (I.freeC x c e)
      exact ⟨_, q, hd⟩
    · exact ⟨o, keep c o (I.cne x c e) hc nch ho (I.freeC x c e), hd⟩
  refine ⟨I.ok, I.os, hg, ⟨fun b o e n hb hx => ?_, fun b o e n hb hx => ?_, fun b o e n hx => ?_, fun b o e hx => ?_, fun b xs e => tups b xs (I.base.tups b xs e), fun b o xs e => frzs b o xs (I.base.frzs b o xs e), fun b ps e => ?_⟩, ?_, fun x c e => ?_, ?_, fun x c e => ?_, fun p hp => ?_, hok, I.len⟩
  · exact keep b o (neL b o e) hb (neC b o e hx) (I.base.keep b o e n hb hx) (I.base.free b o e n hx)
  · obtain ⟨sl, e1⟩ := I.base.slot b o e n hb hx
    obtain ⟨sl', e2⟩ := slot b _ (neL b o e) hb (neC b o e hx) e1 (I.base.free b o e n hx)
    exact ⟨sl', e2⟩
  · obtain ⟨o', e1⟩ := I.base.there b o e hx
    exact free b o' (neC b o e hx) e1 (I.base.free b o e n hx)
  · obtain ⟨o', e1⟩ := I.base.there b o e hx
    exact there b o' (neC b o e hx) e1
  · obtain ⟨m1, e1⟩ := I.base.tbls b ps e
    obtain ⟨m2, e2⟩ := tbls b _ e1
    exact ⟨m1 ++ m2, by rw [e2, Array.append_assoc]⟩
  · obtain ⟨m, hn, hl⟩ := I.loc
    refine ⟨m, ns m hn, fun i x v e1 e2 e3 => ?_⟩
    obtain ⟨u, r, l⟩ := hl i x v e1 e2 e3
    refine ⟨u, r, ?_⟩
    rcases l with l | ⟨k, c, e, z⟩
    · exact .inl l
    · exact .inr ⟨k, c, e, cellK x c e _ z⟩
  · obtain ⟨v, z⟩ := I.cell x c e
    exact ⟨v, cellK x c e v z⟩
  · obtain ⟨m, ⟨o, _, _, ho, _⟩, _⟩ := I.loc
    exact free _ o (fun z => (hch _ z).2.1 rfl) ho I.free
  · obtain ⟨v, o, ho, hd⟩ := I.cell x c e
    exact free c o (fun z => (hch c z).2.2.1 x c e rfl) ho (I.freeC x c e)
  · obtain ⟨e, n, ne, nf, d⟩ := I.pin p hp
    have nch : p.1 ∉ ch := fun z => (hch p.1 z).2.2.2 p hp rfl
    exact ⟨keep p.1 p.2 ne nf nch e n, free p.1 p.2 nch e n, ne, nf, d⟩
/-- .. where the frame's own object is kept too -/
theorem Inv.un {t' : Nat} (I : Inv X pins σ H s) (u : Un X.fs [] H H' s.heap h') (hok : HOk X.prog X.w H' h') : Inv X pins σ H' { s with heap := h', toks := t' } := by
  obtain ⟨m, ⟨o, es, ep, ho, r⟩, _⟩ := id I.loc
  obtain ⟨sl, hL⟩ := u.any ho I.free (by simp)
  exact I.step (g' := s.gens) (d' := s.drawn) (ch := []) (fun _ z => nomatch z) (fun b o _ hb _ e n => u.keep b o e n hb (by simp)) (fun b o _ hb _ e n => u.slot b o e n hb (by simp)) (fun b o _ e n => u.free b o e n (by simp)) (fun b o _ e => u.there b o e (by simp)) u.tups u.frzs u.tbls (fun m' hm => by
    obtain ⟨o', es', ep', ho', r'⟩ := hm
    rw [ho] at ho'; cases ho'
    exact ⟨_, es', ep', hL, r'⟩) hok I.bare
/-- behind a call (or a comprehension's block): the slots of this frame may have changed too, the records at ch may have turned -/
theorem Inv.call {g' : Array GenState} {t' : Nat} {d' : Drawn} {ch : List Addr} (I : Inv X pins σ H s) (u : Un (frs X.stack) ch H H' s.heap h') (hok : HOk X.prog X.w H' h') (hg : AllBare g')
    (hch : ∀ b ∈ ch, (b ∈ X.ex ∨ X.s₀.heap.objs.size ≤ b) ∧ b ≠ X.env.locals ∧ (∀ x c, X.env.cells.lookup x = some c → c ≠ b) ∧ ∀ p ∈ X.pn ++ pins, p.1 ≠ b) :
    Inv X pins σ H' { s with heap := h', gens := g', drawn := d', toks := t' } := by
  obtain ⟨m, ⟨o, es, ep, ho, r⟩, _⟩ := id I.loc
  obtain ⟨sl, hL⟩ := u.any ho I.free fun z => (hch _ z).2.1 rfl
  exact I.step (ch := ch) hch (fun b o hL hb hc e n => u.keep b o e n (fun z => (List.mem_cons.mp (I.stkSub b z)).elim hL hb) hc) (fun b o _ _ hc e n => u.any e n hc) (fun b o hc e n => u.free b o e n hc) (fun b o hc e => u.there b o e hc) u.tups u.frzs u.tbls (fun m' hm => by
    obtain ⟨o', es', ep', ho', r'⟩ := hm
    rw [ho] at ho'; cases ho'
    exact ⟨_, es', ep', hL, r'⟩) hok hg
/-- an untracked record of ours (an iterator) has turned -/
theorem Inv.turned {t' : Nat} {it : Addr} (I : Inv X pins σ H s) (k : ∀ b o, b ≠ it → s.heap.get? b = some o → h'.get? b = some o) (hn : H it = none) (hL : it ≠ X.env.locals)
    (h1 : it ∈ X.ex ∨ X.s₀.heap.objs.size ≤ it) (h2 : ∀ x c, X.env.cells.lookup x = some c → c ≠ it) (h3 : ∀ p ∈ X.pn ++ pins, p.1 ≠ it) : Inv X pins σ H { s with heap := h', toks := t' } := by
  have nit : ∀ b u, H b = some u → b ≠ it := fun b u e z => by rw [z, hn] at e; cases e
  refine I.step (g' := s.gens) (d' := s.drawn) (ch := [it]) (fun b hb => ?_) (fun b o _ _ hc e _ => k b o (fun z => hc (by simp [z])) e) (fun b o _ _ hc e _ => ⟨o.slots, k b o (fun z => hc (by simp [z])) e⟩) (fun _ _ _ _ n => n)
    (fun b o hc e => ⟨o, k b o (fun z => hc (by simp [z])) e⟩) (fun _ _ e => e) (fun _ _ _ e => e) (fun b ps e => ⟨#[], by rw [e]; simp⟩) (fun m hm => ?_) (fun b u e => ?_) I.bare
  · have e : b = it := by simpa using hb
    subst e
    exact ⟨h1, hL, h2, h3⟩
  · obtain ⟨o, es, ep, ho, r⟩ := hm
    exact ⟨o, es, ep, k _ o (Ne.symm hL) ho, r⟩
  · refine (I.hok b u e).stay (fun c v hc q => k c v ?_ q) (fun _ q => q) fun _ _ q => q
    rcases hc with z | z
    · rw [z]; exact nit b u e
    · exact nit c _ z
theorem Inv.tok (I : Inv X pins σ H s) (t : Nat) : Inv X pins σ H { s with toks := t } := I.un (h' := s.heap) (t' := t) Un.refl I.hok
/-- all objects kept -/
theorem Inv.kept {t' : Nat} (I : Inv X pins σ H s) (k : ∀ b u, s.heap.get? b = some u → h'.get? b = some u) : Inv X pins σ H { s with heap := h', toks := t' } := I.un (Un.kept k) (I.hok.kept k)
/-- a new object laid and tracked -/
theorem Inv.laid {a : Addr} {o : HO} {t' : Nat} (I : Inv X pins σ H s) (k : ∀ b u, s.heap.get? b = some u → h'.get? b = some u) (hp : s.heap.objs.size ≤ a) (new : ObjOk X.prog X.w (upd H a o) h' a o) :
    Inv X pins σ (upd H a o) { s with heap := h', toks := t' } := I.un (Un.laid k hp (I.hok.fresh hp)) (I.hok.laid k hp new)
/-- an object written -/
theorem Inv.write {x e : Addr} {o : HO} {t' : Nat} (I : Inv X pins σ H s) (mu : Mut (H x)) (he : e = x ∨ H e = some (.own x)) (k : ∀ b u, b ≠ e → s.heap.get? b = some u → h'.get? b = some u) (heo : ∃ u, h'.get? e = some u)
    (new : ObjOk X.prog X.w (upd H x o) h' x o) : Inv X pins σ (upd H x o) { s with heap := h', toks := t' } := I.un (Un.write mu he k heo) (I.hok.write mu he k heo new)
/-- forgetting slots, pins -/
theorem Inv.weak {σ' : List (Option V)} (I : Inv X pins σ H s) (hl : σ'.length = σ.length) (w : ∀ (i : Nat) v, σ'[i]? = some (some v) → σ[i]? = some (some v)) : Inv X pins σ' H s :=
  ⟨I.ok, I.os, I.bare, I.base, let ⟨m, hn, hl'⟩ := I.loc; ⟨m, hn, fun i x v e1 e2 e3 => hl' i x v e1 (w i v e2) e3⟩, I.cell, I.free, I.freeC, I.pin, I.hok, hl.trans I.len⟩
theorem Inv.pins_of {pins' : List (Addr × Obj)} (I : Inv X pins σ H s) (h : ∀ p ∈ pins', s.heap.get? p.1 = some p.2 ∧ H p.1 = none ∧ p.1 ≠ X.env.locals ∧ p.1 ∉ X.fs ∧ ∀ v, p.2.data ≠ .cell v) : Inv X pins' σ H s :=
  ⟨I.ok, I.os, I.bare, I.base, I.loc, I.cell, I.free, I.freeC, fun p hp => (List.mem_append.mp hp).elim (fun z => I.pin p (List.mem_append_left _ z)) (h p), I.hok, I.len⟩

theorem nodup_ix {N : List Str} (hN : N.Nodup) {i j : Nat} {x : Str} (a : N[i]? = some x) (b : N[j]? = some x) : i = j := by
  obtain ⟨h1, e1⟩ := List.getElem?_eq_some_iff.mp a
  obtain ⟨h2, e2⟩ := List.getElem?_eq_some_iff.mp b
  exact (List.getElem_inj hN).mp (e1.trans e2.symm)

/-- a name is stored; what changed -/
theorem store_ok2 {M : Model} {A : Around} {E : Value → Shared → Prop} {i : Nat} {x : Str} {v : V} {u : Value} {Q : Unit → Shared → Prop} (I : Inv X pins σ H s) (hN : X.N.Nodup) (hi : X.N[i]? = some x) (hx : Loc X.env.scope x) (r : RelV v u)
    (h : ∀ s', Inv X pins (σ.set i (some v)) H s' → (∃ a, Heap.SameBut a s.heap s'.heap ∧ (a = X.env.locals ∨ X.env.cells.lookup x = some a)) → Q () s') (hf : X.fn x = true ∨ X.env.scope.names.lookup x = some .local := by first | exact .inl rfl | exact .inr rfl | assumption) : wpAny M A (storeName X.env x u) Q E s := by
  obtain ⟨m, hn, hl⟩ := id I.loc
  have hcls : (X.env.scope.kind == .class || (X.env.scope.kind == .module && X.env.locals != X.env.globals)) = false := by rw [I.ok.kind]; rfl
  have hiσ : i < σ.length := by rw [I.len]; exact (List.getElem?_eq_some_iff.mp hi).1
  have cne := I.cne
  have tracked : ∀ {a : Addr} {h' : Heap}, (∃ o, s.heap.get? a = some o ∧ H a = none) → Heap.SameBut a s.heap h' → HOk X.prog X.w H h' := fun {a h'} ha hs b ob e => by
    obtain ⟨_, _, hfree⟩ := ha
    refine (I.hok b ob e).stay (fun c w' hc q => (hs.2 c ?_).trans q) (fun _ q => q) fun _ _ q => q
    rintro rfl
    rcases hc with rfl | hc
    · rw [hfree] at e; cases e
    · rw [hfree] at hc; cases hc
  rcases hx with hk | hk
  · refine wpAny_storeName_local hk hn (fun h' hn' hs => ?_) hcls
    obtain ⟨oL, _, _, hoL, _⟩ := id hn
    refine h _ ⟨I.ok, I.os, I.bare, ⟨fun b o e n hb hx => ?_, fun b o e n hb hx => ?_, I.base.free, fun b o e hx => ?_, I.base.tups, I.base.frzs, I.base.tbls⟩, ⟨_, hn', fun j y v' e1 e2 e3 => ?_⟩, fun y c e => ?_, I.free, I.freeC, fun p hp => ?_, tracked ⟨oL, hoL, I.free⟩ hs, by simpa using I.len⟩ ⟨_, hs, .inl rfl⟩
    · exact (hs.2 b (Nat.ne_of_lt (Nat.lt_of_lt_of_le (Heap.lt_size e) I.ok.above))).trans (I.base.keep b o e n hb hx)
    · obtain ⟨sl, e1⟩ := I.base.slot b o e n hb hx
      exact ⟨sl, (hs.2 b (Nat.ne_of_lt (Nat.lt_of_lt_of_le (Heap.lt_size e) I.ok.above))).trans e1⟩
    · obtain ⟨o', e1⟩ := I.base.there b o e hx
      exact ⟨o', (hs.2 b (Nat.ne_of_lt (Nat.lt_of_lt_of_le (Heap.lt_size e) I.ok.above))).trans e1⟩
    · by_cases hj : j = i
      · subst hj
        rw [hi] at e1; cases e1
        rw [List.getElem?_set_self hiσ] at e2
        cases e2
        exact ⟨u, r, .inl ⟨hk, by simp⟩⟩
      · rw [List.getElem?_set_ne (Ne.symm hj)] at e2
        obtain ⟨u', r', q⟩ := hl j y v' e1 e2 e3
        refine ⟨u', r', ?_⟩
        rcases q with ⟨k, e⟩ | ⟨k, c, e, z⟩
        · refine .inl ⟨k, ?_⟩
          have : y ≠ x := fun e => hj (nodup_ix hN e1 (e ▸ hi))
          simp [this, e]
        · exact .inr ⟨k, c, e, z.sameBut hs (cne y c e)⟩
    · obtain ⟨w', z⟩ := I.cell y c e
      exact ⟨w', z.sameBut hs (cne y c e)⟩
    · obtain ⟨e, n, ne, nf, d⟩ := I.pin p hp
      exact ⟨(hs.2 p.1 ne).trans e, n, ne, nf, d⟩
  · have hfn : X.fn x = true := by
      rcases hf with z | z
      · exact z
      · rw [z] at hk; cases hk
    obtain ⟨c, hc⟩ := I.ok.has x (.inl hk)
    obtain ⟨w', z⟩ := I.cell x c hc
    refine wpAny_storeName_cell I.ok.kind hk hc z (fun h' hc' hs => ?_)
    obtain ⟨oc, hoc, hocd⟩ := id z
    refine h { s with heap := h' } ⟨I.ok, I.os, I.bare, ⟨fun b o e n hb hx => ?_, fun b o e n hb hx => ?_, I.base.free, fun b o e hx => ?_, I.base.tups, I.base.frzs, I.base.tbls⟩, ⟨m, hn.sameBut hs (Ne.symm (cne x c hc)), fun j y v' e1 e2 e3 => ?_⟩, fun y c' e => ?_, I.free, I.freeC, fun p hp => ?_, tracked ⟨oc, hoc, I.freeC x c hc⟩ hs, by simpa using I.len⟩ ⟨c, hs, .inr hc⟩
    · exact (hs.2 b (Nat.ne_of_lt (Nat.lt_of_lt_of_le (Heap.lt_size e) (I.ok.cab x c hfn hc)))).trans (I.base.keep b o e n hb hx)
    · obtain ⟨sl, e1⟩ := I.base.slot b o e n hb hx
      exact ⟨sl, (hs.2 b (Nat.ne_of_lt (Nat.lt_of_lt_of_le (Heap.lt_size e) (I.ok.cab x c hfn hc)))).trans e1⟩
    · obtain ⟨o', e1⟩ := I.base.there b o e hx
      exact ⟨o', (hs.2 b (Nat.ne_of_lt (Nat.lt_of_lt_of_le (Heap.lt_size e) (I.ok.cab x c hfn hc)))).trans e1⟩
    · by_cases hj : j = i
      · subst hj
        rw [hi] at e1; cases e1
        rw [List.getElem?_set_self hiσ] at e2
        cases e2
        exact ⟨u, r, .inr ⟨.inl hk, c, hc, hc'⟩⟩
      · rw [List.getElem?_set_ne (Ne.symm hj)] at e2
        obtain ⟨u', r', q⟩ := hl j y v' e1 e2 e3
        refine ⟨u', r', ?_⟩
        rcases q with q | ⟨k, c', e, z'⟩
        · exact .inl q
        · refine .inr ⟨k, c', e, z'.sameBut hs ?_⟩
          rintro rfl
          exact hj (nodup_ix hN e1 (I.ok.inj _ _ _ e hc ▸ hi))
    · by_cases hcc : c' = c
      · subst hcc; exact ⟨_, hc'⟩
      · obtain ⟨w2, z2⟩ := I.cell y c' e
        exact ⟨w2, z2.sameBut hs hcc⟩
    · obtain ⟨e, n, ne, nf, d⟩ := I.pin p hp
      refine ⟨(hs.2 p.1 ?_).trans e, n, ne, nf, d⟩
      intro q
      rw [q, hoc] at e
      have q' : oc = p.2 := Option.some.inj e
      exact d w' (by rw [← q']; exact hocd)
theorem store_ok {M : Model} {A : Around} {E : Value → Shared → Prop} {i : Nat} {x : Str} {v : V} {u : Value} {Q : Unit → Shared → Prop} (I : Inv X pins σ H s) (hN : X.N.Nodup) (hi : X.N[i]? = some x) (hx : Loc X.env.scope x) (r : RelV v u)
    (h : ∀ s', Inv X pins (σ.set i (some v)) H s' → Q () s') (hf : X.fn x = true ∨ X.env.scope.names.lookup x = some .local := by first | exact .inl rfl | exact .inr rfl | assumption) : wpAny M A (storeName X.env x u) Q E s :=
  store_ok2 I hN hi hx r (fun s' I' _ => h s' I') hf
/-- behind a call or a block, the state as it is -/
theorem Inv.call' {s' : Shared} {ch : List Addr} (I : Inv X pins σ H s) (ho : s'.os = s.os) (u : Un (frs X.stack) ch H H' s.heap s'.heap) (hok : HOk X.prog X.w H' s'.heap) (hg : AllBare s'.gens)
    (hch : ∀ b ∈ ch, (b ∈ X.ex ∨ X.s₀.heap.objs.size ≤ b) ∧ b ≠ X.env.locals ∧ (∀ x c, X.env.cells.lookup x = some c → c ≠ b) ∧ ∀ p ∈ X.pn ++ pins, p.1 ≠ b) : Inv X pins σ H' s' := by
  obtain ⟨h', g', d', t', o'⟩ := s'
  have e : o' = s.os := ho
  subst e
  exact I.call (g' := g') (t' := t') (d' := d') u hok hg hch
end

/-! ### the judgements -/
/-- an exception: its class, its own dict's address (where it has one), the abstract heap behind it -/
abbrev XK := Value → Option Addr → Hp → Prop
abbrev St := List (Option V)
abbrev VK := V → Hp → Prop
/-- an expression's reading; a test's; an argument list's -/
abbrev TE := St → Hp → VK → Prop
abbrev TT := St → Hp → (Bool → Hp → Prop) → Prop
abbrev TA := St → Hp → (List V → Hp → Prop) → Prop
/-- what is wanted behind a statement -/
structure Ends where
  nx : St → Hp → Prop
  rt : VK
  bk : St → Hp → Prop := fun _ _ => False
  ct : St → Hp → Prop := fun _ _ => False
abbrev TS := Ends → St → Hp → Prop

def EP (X : Cx) (pins : List (Addr × Obj)) (σ : St) (Q : VK) (u : Value) (s' : Shared) : Prop := ∃ v H', Inv X pins σ H' s' ∧ RelV v u ∧ Q v H'
def TP (X : Cx) (pins : List (Addr × Obj)) (σ : St) (Q : Bool → Hp → Prop) (b : Bool) (s' : Shared) : Prop := ∃ H', Inv X pins σ H' s' ∧ Q b H'
def AP (X : Cx) (pins : List (Addr × Obj)) (σ : St) (Q : List V → Hp → Prop) (us : List Value) (s' : Shared) : Prop := ∃ vs H', Inv X pins σ H' s' ∧ Vals vs us ∧ Q vs H'
def SP (X : Cx) (pins : List (Addr × Obj)) (D : Ends) (f : Flow) (s' : Shared) : Prop :=
  match f with
  | .next => ∃ σ' H', Inv X pins σ' H' s' ∧ D.nx σ' H'
  | .brk => ∃ σ' H', Inv X pins σ' H' s' ∧ D.bk σ' H'
  | .cont => ∃ σ' H', Inv X pins σ' H' s' ∧ D.ct σ' H'
  | .ret u => ∃ v σ' H', Inv X pins σ' H' s' ∧ RelV v u ∧ D.rt v H'

def PE (X : Cx) (e : Expr) (t : TE) : Prop :=
  ∀ (pins : List (Addr × Obj)) (s : Shared) (σ : St) (H : Hp) (Q : VK), Inv X pins σ H s → t σ H Q → wpAny (model X.prog X.w) X.A (eval e X.env) (EP X pins σ Q) X.xe s
def PT (X : Cx) (e : Expr) (t : TT) : Prop :=
  ∀ (pins : List (Addr × Obj)) (s : Shared) (σ : St) (H : Hp) (Q : Bool → Hp → Prop), Inv X pins σ H s → t σ H Q → wpAny (model X.prog X.w) X.A (isTrue e X.env (eval e X.env)) (TP X pins σ Q) X.xe s
/-- a test whatever its 'whole' is (and, or) -/
def PW (X : Cx) (e : Expr) (t : TT) : Prop :=
  ∀ (whole : Sem Value) (pins : List (Addr × Obj)) (s : Shared) (σ : St) (H : Hp) (Q : Bool → Hp → Prop), Inv X pins σ H s → t σ H Q → wpAny (model X.prog X.w) X.A (isTrue e X.env whole) (TP X pins σ Q) X.xe s
theorem PW.pt {X : Cx} {e : Expr} {t : TT} (h : PW X e t) : PT X e t := h _
/-- an argument list (no star), from the left -/
def PA (X : Cx) (es : List Expr) (t : TA) : Prop :=
  ∀ (pos : Pos) (pins : List (Addr × Obj)) (s : Shared) (σ : St) (H : Hp) (Q : List V → Hp → Prop), Inv X pins σ H s → t σ H Q → wpAny (model X.prog X.w) X.A (spliced (backTo pos (starEach es X.env))) (AP X pins σ Q) X.xe s
def PS (X : Cx) (st : Stmt) (t : TS) : Prop :=
  ∀ (pins : List (Addr × Obj)) (s : Shared) (σ : St) (H : Hp) (D : Ends), Inv X pins σ H s → t D σ H → wpAny (model X.prog X.w) X.A (exec st X.env) (SP X pins D) X.xe s
def PSs (X : Cx) (st : List Stmt) (t : TS) : Prop :=
  ∀ (pins : List (Addr × Obj)) (s : Shared) (σ : St) (H : Hp) (D : Ends), Inv X pins σ H s → t D σ H → wpAny (model X.prog X.w) X.A (execs st X.env) (SP X pins D) X.xe s
/-- weaken the end -/
theorem thn {α : Type} {t : Sem α} {Q Q' : α → Shared → Prop} {M : Model} {A : Around} {E : Value → Shared → Prop} {s : Shared} (h : wpAny M A t Q E s) (hQ : ∀ a s, Q a s → Q' a s) : wpAny M A t Q' E s := wpAny_mono h hQ fun _ _ x => x
end L2

namespace L2
open PySem PySem.Spec PyProof.Rows
section
variable {X : Cx}

/-- two expressions in a row -/
theorem bin {a b : Expr} {ta tb : TE} (ha : PE X a ta) (hb : PE X b tb) {pins : List (Addr × Obj)} {s : Shared} {σ : St} {H : Hp} {R : V → V → Hp → Prop} (I : Inv X pins σ H s) (h : ta σ H fun x H1 => tb σ H1 fun y H2 => R x y H2)
    {α : Type} {Q : α → Shared → Prop} {f : Value → Value → Sem α}
    (hf : ∀ v u s2 x y H2, Inv X pins σ H2 s2 → RelV x v → RelV y u → R x y H2 → wpAny (model X.prog X.w) X.A (f v u) Q X.xe s2) :
    wpAny (model X.prog X.w) X.A (eval a X.env) (fun v s₁ => wpAny (model X.prog X.w) X.A (eval b X.env) (fun u s₂ => wpAny (model X.prog X.w) X.A (f v u) Q X.xe s₂) X.xe s₁) X.xe s := by
  refine thn (ha pins s σ H _ I h) fun v s1 ⟨x, H1, I1, r1, q1⟩ => ?_
  refine thn (hb pins s1 σ H1 _ I1 q1) fun u s2 ⟨y, H2, I2, r2, q2⟩ => ?_
  exact hf v u s2 x y H2 I2 r1 r2 q2

/-! ### names and constants -/
def tVar (i : Nat) : TE := fun σ H Q => ∃ v, σ[i]? = some (some v) ∧ Q v H
def tC (v : V) : TE := fun _ H Q => Q v H
theorem pe_var {i : Nat} {x : Str} {pos : Pos} (hN : X.N[i]? = some x) (hv : Vis X.env.scope x) (hd : (x == ("__debug__" : Str)) = false := by decide) (hcd : (x == ("__classdict__" : Str)) = false := by decide) : PE X (.Name x pos) (tVar i) := by
  intro pins s σ H Q I h
  obtain ⟨v, e, h⟩ := h
  obtain ⟨m, hn, hl⟩ := I.loc
  obtain ⟨u, r, l⟩ := hl i x v hN e hv
  have fin : EP X pins σ Q u s := ⟨v, H, I, r, h⟩
  rcases l with ⟨hk, hm⟩ | ⟨hk, c, hc, hcell⟩
  · exact wpAny_Name (wpAny_loadName_local I.ok.kind hk hn hm fin) hd
  · rcases hk with hk | hk
    · exact wpAny_Name (wpAny_loadName_cell I.ok.kind hk hc hcell fin) hd
    · exact wpAny_Name (wpAny_loadName_free I.ok.kind hk hc hcell fin hcd) hd
theorem pe_int {i j pos} : PE X (.Constant (.int i) j pos) (tC (.int i)) := fun _ _ _ H _ I h => wpAny_Constant_int ⟨.int i, H, I.tok _, ⟨_, rfl⟩, h⟩
theorem pe_bl {b j pos} : PE X (.Constant (.bool b) j pos) (tC (.bl b)) := fun _ _ _ H _ I h => Constant_bool ⟨.bl b, H, I, rfl, h⟩
theorem pe_str {x j pos} : PE X (.Constant (.str x) j pos) (tC (.str x)) := fun _ _ _ H _ I h => Calls.Constant_str ⟨.str x, H, I.tok _, ⟨_, rfl⟩, h⟩

/-- a global name of the def -/
def Gl (X : Cx) (x : Str) : Prop := X.env.kindOf x = some .globalImplicit
theorem ld_glob {E : Value → Shared → Prop} {pins : List (Addr × Obj)} {s : Shared} {σ : St} {H : Hp} {x : Str} {u : Value} {pos : Pos} {Q : Value → Shared → Prop} (I : Inv X pins σ H s) (hg : Gl X x) (hm : X.mg x = some u) (h : Q u s)
    (hd : (x == ("__debug__" : Str)) = false := by decide) : wpAny (model X.prog X.w) X.A (eval (.Name x pos) X.env) Q E s :=
  Calls.Name_function_global I.ok.kind hg (Calls.loadGlobal_global (by rw [I.ok.glob]; exact I.mod.glob.keeps I.bk) hm h) hd
theorem ld_blt {E : Value → Shared → Prop} {pins : List (Addr × Obj)} {s : Shared} {σ : St} {H : Hp} {x : Str} {u : Value} {pos : Pos} {Q : Value → Shared → Prop} (I : Inv X pins σ H s) (hg : Gl X x) (hm : X.mg x = none) (hv : bootBuiltins x = some u) (h : Q u s)
    (hn : x ≠ "__name__" := by decide) (hd : (x == ("__debug__" : Str)) = false := by decide) : wpAny (model X.prog X.w) X.A (eval (.Name x pos) X.env) Q E s := by
  obtain ⟨mb, h1, h2⟩ := I.mod.blt
  exact Calls.Name_function_global I.ok.kind hg (Calls.loadGlobal_builtin (by rw [I.ok.glob]; exact I.mod.glob.keeps I.bk) hm (by rw [I.ok.blt]; exact h1.keeps I.bk) ((h2 x hn).trans hv) h) hd
theorem pe_bltn {x : Str} {v : V} {u : Value} {pos : Pos} (hg : Gl X x) (hm : X.mg x = none) (hv : bootBuiltins x = some u) (r : RelV v u) (hn : x ≠ "__name__" := by decide) (hd : (x == ("__debug__" : Str)) = false := by decide) : PE X (.Name x pos) (tC v) :=
  fun _ _ _ H _ I h => ld_blt I hg hm hv ⟨v, H, I, r, h⟩ hn hd

/-! ### arithmetic -/
variable {a b : Expr} {ta tb : TE} {pos : Pos}

/-! ### comparisons -/
def PC (X : Cx) (op : CmpOp) (a b : Expr) (t : TE) : Prop :=
  ∀ (pins : List (Addr × Obj)) (s : Shared) (σ : St) (H : Hp) (Q : VK), Inv X pins σ H s → t σ H Q →
    wpAny (model X.prog X.w) X.A (eval a X.env) (fun v s₁ => wpAny (model X.prog X.w) X.A (eval b X.env) (fun u s₂ => wpAny (model X.prog X.w) X.A (compareOp op v u) (EP X pins σ Q) X.xe s₂) X.xe s₁) X.xe s
theorem nobehind (b : Expr) {op : CmpOp} (h : op ≠ .In) (h2 : op ≠ .NotIn) : behindInMarks op b = false := by
  have e1 : (op == CmpOp.In) = false := by cases op <;> first | rfl | exact absurd rfl h
  have e2 : (op == CmpOp.NotIn) = false := by cases op <;> first | rfl | exact absurd rfl h2
  cases b <;> simp [behindInMarks, e1, e2]
/-- a comparison as a value, as a test -/
def tB (t : TE) : TT := fun σ H Q => t σ H fun x H1 => ∃ c, x = .bl c ∧ Q c H1
theorem pt_cmp {op : CmpOp} {t : TE} (h : PC X op a b t) (h1 : behindInMarks op b = false := by first | exact nobehind _ (by decide) (by decide) | rfl) : PT X (.Compare a [op] [b] pos) (tB t) := by
  intro pins s σ H Q I hw
  refine wpAny_isTrue_Compare1 (thn (h pins s σ H _ I hw) fun v s1 h1 => thn h1 fun u s2 h2 => thn h2 fun c s3 ⟨x, H1, I1, r1, q1⟩ => ?_) h1
  obtain ⟨d, rfl, q⟩ := q1
  cases r1
  exact wpAny_truthy_bool ⟨H1, I1, q⟩
/-- an expression whose value is a bool, as a test -/
theorem pt_val {e : Expr} {t : TE} (h : PE X e t) (he : ∀ whole, isTrue e X.env whole = (do let v ← whole; standAt e.pos; holding [v] (truthy v)) := by intro _; rfl) : PT X e (tB t) := by
  intro pins s σ H Q I hw
  refine isTrue_plain (thn (h pins s σ H _ I hw) fun v s1 ⟨x, H1, I1, r1, q1⟩ => ?_) (he _)
  obtain ⟨d, rfl, q⟩ := q1
  cases r1
  exact wpAny_truthy_bool ⟨H1, I1, q⟩

/-! ### and, or, not -/
variable {tA tB' : TT} {rest : List Expr}
def tAnd (t u : TT) : TT := fun σ H Q => t σ H fun c H1 => if c = true then u σ H1 Q else Q false H1
def tOr (t u : TT) : TT := fun σ H Q => t σ H fun c H1 => if c = true then Q true H1 else u σ H1 Q
def tNot (t : TT) : TT := fun σ H Q => t σ H fun c H1 => Q (!c) H1
theorem pw_and1 (ha : PT X a tA) : PW X (.BoolOp .And [a] pos) tA := by
  intro wh pins s σ H Q I h
  refine isTrue_and (thn (ha pins s σ H Q I h) fun c s1 e => ?_)
  cases c with
  | true => exact isTrue_and_nil e
  | false => exact e
theorem pw_or1 (ha : PT X a tA) : PW X (.BoolOp .Or [a] pos) tA := by
  intro wh pins s σ H Q I h
  refine isTrue_or (thn (ha pins s σ H Q I h) fun c s1 e => ?_)
  cases c with
  | false => exact isTrue_or_nil e
  | true => exact e
theorem pw_and (ha : PT X a tA) (hb : PW X (.BoolOp .And (b :: rest) pos) tB') : PW X (.BoolOp .And (a :: b :: rest) pos) (tAnd tA tB') := by
  intro wh pins s σ H Q I h
  refine isTrue_and (thn (ha pins s σ H _ I h) fun c s1 ⟨H1, I1, q1⟩ => ?_)
  cases c with
  | true => exact hb wh pins s1 σ H1 Q I1 q1
  | false => exact ⟨H1, I1, q1⟩
theorem pw_or (ha : PT X a tA) (hb : PW X (.BoolOp .Or (b :: rest) pos) tB') : PW X (.BoolOp .Or (a :: b :: rest) pos) (tOr tA tB') := by
  intro wh pins s σ H Q I h
  refine isTrue_or (thn (ha pins s σ H _ I h) fun c s1 ⟨H1, I1, q1⟩ => ?_)
  cases c with
  | true => exact ⟨H1, I1, q1⟩
  | false => exact hb wh pins s1 σ H1 Q I1 q1
theorem pt_not (ha : PT X a tA) : PT X (.UnaryOp .Not a pos) (tNot tA) := by
  intro pins s σ H Q I h
  exact isTrue_not (ha pins s σ H (fun c H1 => Q (!c) H1) I h)
/-- .. as values (bools) -/
def tAndV (ta tb : TE) : TE := fun σ H Q => ta σ H fun x H1 => ∃ c, x = .bl c ∧ if c = true then tb σ H1 Q else Q (.bl false) H1
def tNotV (ta : TE) : TE := fun σ H Q => ta σ H fun x H1 => ∃ c, x = .bl c ∧ Q (.bl (!c)) H1
theorem pe_one {op} {t : TE} (h : PE X a t) : PE X (.BoolOp op [a] pos) t := fun pins s σ H Q I hw => BoolOp_one (h pins s σ H Q I hw)
theorem pe_and (ha : PE X a ta) (hb : PE X (.BoolOp .And (b :: rest) pos) tb) : PE X (.BoolOp .And (a :: b :: rest) pos) (tAndV ta tb) := by
  intro pins s σ H Q I h
  refine BoolOp_and (thn (ha pins s σ H _ I h) fun v s1 ⟨x, H1, I1, r1, q1⟩ => ?_)
  obtain ⟨c, rfl, q1⟩ := q1
  cases r1
  refine wpAny_truthy_bool ?_
  cases c with
  | true => exact hb pins s1 σ H1 Q I1 q1
  | false => exact ⟨.bl false, H1, I1, rfl, q1⟩
theorem pe_not (ha : PE X a ta) : PE X (.UnaryOp .Not a pos) (tNotV ta) := by
  intro pins s σ H Q I h
  refine UnaryOp_ (thn (ha pins s σ H _ I h) fun v s1 ⟨x, H1, I1, r1, q1⟩ => ?_)
  obtain ⟨c, rfl, q1⟩ := q1
  cases r1
  exact not_of (wpAny_truthy_bool ⟨.bl (!c), H1, I1, rfl, q1⟩)
end
end L2

namespace L2
open PySem PySem.Spec PyProof.Rows

/-! ### a list, a tuple that is read: tracked, frozen, or an object of the module -/
def SqL (K : PySem.W.Frag) (H : Hp) (a : Addr) (xs : List V) : Prop :=
  Rd H a (.lst xs) ∨
    ∃ (o : Obj) (its : Array Value) (n : Nat), K.lookup a = some o ∧ o.cls = .type "list" ∧ o.dict = none ∧ o.data = .seq its n ∧ its.size ≤ sizeLine ∧ Vals xs its.toList
def SqT (K : PySem.W.Frag) (H : Hp) (a : Addr) (xs : List V) : Prop :=
  Rd H a (.tup xs) ∨
    ∃ (o : Obj) (its : Array Value) (n : Nat), K.lookup a = some o ∧ o.cls = .type "tuple" ∧ o.data = .seq its n ∧ its.size ≤ sizeLine ∧ Vals xs its.toList
def absV : Value → Option V
  | .none => some .non
  | .bool b => some (.bl b)
  | .int i _ => some (.int i)
  | .str x _ => some (.str x)
  | .bytes b _ => some (.byt b)
  | .float b _ => some (.flt b)
  | .ref a => some (.ref a)
  | .type n => some (.ty n)
  | _ => none
theorem RelV.abs {x : V} {u : Value} (r : RelV x u) : absV u = some x := by
  cases x with
  | non => cases r; rfl
  | bl _ => cases r; rfl
  | int _ => obtain ⟨t, rfl⟩ := r; rfl
  | str _ => obtain ⟨t, rfl⟩ := r; rfl
  | byt _ => obtain ⟨t, rfl⟩ := r; rfl
  | flt _ => obtain ⟨t, rfl⟩ := r; rfl
  | ref _ => cases r; rfl
  | ty _ => cases r; rfl
theorem RelV.inj {x y : V} {u : Value} (r : RelV x u) (q : RelV y u) : x = y := Option.some.inj (r.abs.symm.trans q.abs)
theorem Vals.inj : ∀ {xs ys : List V} {us : List Value}, Vals xs us → Vals ys us → xs = ys
  | _, _, _, .nil, .nil => rfl
  | _, _, _, .cons r t, .cons r' t' => by rw [r.inj r', Vals.inj t t']
section
variable {X : Cx} {pins : List (Addr × Obj)} {σ : St} {H : Hp} {s : Shared} {a : Addr} {xs ys : List V}
theorem SqL.of {K : PySem.W.Frag} (h : H a = some (.lst xs)) : SqL K H a xs := .inl (.inl h)
theorem SqT.of {K : PySem.W.Frag} (h : H a = some (.tup xs)) : SqT K H a xs := .inl (.inl h)
theorem Inv.list (I : Inv X pins σ H s) (h : SqL X.K H a xs) : ∃ its : List Value, Vals xs its ∧ PlainL s.heap a its.toArray ∧ xs.length ≤ sizeLine := by
  rcases h with h | ⟨o, its, n, hk, hc, hd, hs, hz, r⟩
  · obtain ⟨z, its, n, r, e⟩ := h.ok I.hok
    exact ⟨its, r, ⟨_, n, e, rfl, rfl, rfl⟩, z⟩
  · refine ⟨its.toList, r, ⟨o, n, I.kIn a o hk, hc, hd, by simpa using hs⟩, ?_⟩
    have e := r.length
    simp only [Array.length_toList] at e
    omega
theorem Inv.tuple (I : Inv X pins σ H s) (h : SqT X.K H a xs) : ∃ its : List Value, Vals xs its ∧ IsTup s.heap a its.toArray ∧ xs.length ≤ sizeLine := by
  rcases h with h | ⟨o, its, n, hk, hc, hs, hz, r⟩
  · obtain ⟨z, its, r, p⟩ := h.ok I.hok
    exact ⟨its, r, p, z⟩
  · refine ⟨its.toList, r, ⟨o, I.kIn a o hk, hc, n, by simpa using hs⟩, ?_⟩
    have e := r.length
    simp only [Array.length_toList] at e
    omega
theorem Inv.list_inj (I : Inv X pins σ H s) (h : SqL X.K H a xs) (h' : SqL X.K H a ys) : xs = ys := by
  obtain ⟨its, r, ⟨o, n, e, _, _, d⟩, _⟩ := I.list h
  obtain ⟨its', r', ⟨o', n', e', _, _, d'⟩, _⟩ := I.list h'
  rw [e] at e'; cases e'
  rw [d] at d'
  injection d' with d1 _
  have : its = its' := by simpa using congrArg Array.toList d1
  subst this
  exact r.inj r'
end

/-! ### another wish about exceptions -/
abbrev Cx.wish (X : Cx) (E : Value → Shared → Prop) : Cx := { X with xe := E }
/-- no exception leaves -/
abbrev Cx.nox (X : Cx) : Cx := X.wish fun _ _ => False
theorem Cx.Ok.wish {X : Cx} (ok : X.Ok) (E : Value → Shared → Prop) : (X.wish E).Ok :=
  ⟨ok.mod, ok.kind, ok.glob, ok.blt, ok.above, ok.inj, ok.has, ok.cab, ok.hd, ok.frames, ok.stk, ok.exf, ok.bs, ok.bsz, ok.noex, ok.exfs, ok.funs, ok.frf⟩
theorem Cx.Ok.unwish {X : Cx} {E : Value → Shared → Prop} (ok : (X.wish E).Ok) : X.Ok :=
  ⟨ok.mod, ok.kind, ok.glob, ok.blt, ok.above, ok.inj, ok.has, ok.cab, ok.hd, ok.frames, ok.stk, ok.exf, ok.bs, ok.bsz, ok.noex, ok.exfs, ok.funs, ok.frf⟩
section
variable {X : Cx} {pins : List (Addr × Obj)} {σ : St} {H : Hp} {s : Shared} {E : Value → Shared → Prop}
theorem Inv.wish (I : Inv X pins σ H s) (E : Value → Shared → Prop) : Inv (X.wish E) pins σ H s := ⟨I.ok.wish E, I.os, I.bare, I.base, I.loc, I.cell, I.free, I.freeC, I.pin, I.hok, I.len⟩
theorem Inv.unwish (I : Inv (X.wish E) pins σ H s) : Inv X pins σ H s := ⟨I.ok.unwish, I.os, I.bare, I.base, I.loc, I.cell, I.free, I.freeC, I.pin, I.hok, I.len⟩
theorem SP.unwish {D : Ends} {f : Flow} {s' : Shared} (h : SP (X.wish E) pins D f s') : SP X pins D f s' := by
  cases f with
  | next => obtain ⟨σ', H', I, q⟩ := h; exact ⟨σ', H', I.unwish, q⟩
  | brk => obtain ⟨σ', H', I, q⟩ := h; exact ⟨σ', H', I.unwish, q⟩
  | cont => obtain ⟨σ', H', I, q⟩ := h; exact ⟨σ', H', I.unwish, q⟩
  | ret u => obtain ⟨v, σ', H', I, r, q⟩ := h; exact ⟨v, σ', H', I.unwish, r, q⟩
theorem PSs.nox {st : List Stmt} {t : TS} (h : PSs X.nox st t) : PSs X st t := fun pins s σ H D I hw =>
  wpAny_mono (h pins s σ H D (I.wish _) hw) (fun _ _ q => q.unwish) fun _ _ z => False.elim z
end

/-! ### blocks and small statements -/
section
variable {X : Cx} {st : Stmt} {rest : List Stmt} {t u : TS} {e : Expr} {te : TE} {pos : Pos}
def tNext : TS := fun D σ H => D.nx σ H
def tSeq (t u : TS) : TS := fun D σ H => t { D with nx := u D } σ H
theorem pss_nil : PSs X [] tNext := fun _ _ σ H _ I h => wpAny_execs_nil ⟨σ, H, I, h⟩
theorem pss_cons (h1 : PS X st t) (h2 : PSs X rest u) : PSs X (st :: rest) (tSeq t u) := by
  intro pins s σ H D I h
  refine wpAny_execs_cons (thn (h1 pins s σ H { D with nx := u D } I h) fun f s1 q => ?_)
  cases f with
  | next =>
    obtain ⟨σ', H', I', q⟩ := q
    exact h2 pins s1 σ' H' D I' q
  | ret v => exact q
  | brk => exact q
  | cont => exact q
theorem pss_one (h1 : PS X st t) : PSs X [st] t := by
  intro pins s σ H D I h
  refine wpAny_execs_cons (thn (h1 pins s σ H D I h) fun f s1 q => ?_)
  cases f with
  | next => exact wpAny_execs_nil q
  | ret v => exact q
  | brk => exact q
  | cont => exact q
/-- in a def's body nothing is shown -/
theorem Inv.quiet {pins : List (Addr × Obj)} {σ : St} {H : Hp} {s : Shared} (I : Inv X pins σ H s) : interactive X.env = false := by simp [interactive, I.ok.kind]
/-- an expression whose value is dropped -/
def tDrop (te : TE) : TS := fun D σ H => te σ H fun _ H1 => D.nx σ H1
theorem ps_expr (he : PE X e te) (hs : swapsWith e none pos.line X.env = pure false := by rfl) : PS X (.Expr e pos) (tDrop te) := by
  intro pins s σ H D I h
  exact wpAny_Expr_any (thn (he pins s σ H _ I h) fun v s1 ⟨x, H1, I1, r1, q1⟩ => ⟨σ, H1, I1, q1⟩) I.quiet hs
def tRet (te : TE) : TS := fun D σ H => te σ H D.rt
theorem ps_ret (he : PE X e te) : PS X (.Return (some e) pos) (tRet te) := by
  intro pins s σ H D I h
  exact wpAny_Return_some (thn (he pins s σ H _ I h) fun v s1 ⟨x, H1, I1, r1, q1⟩ => ⟨x, σ, H1, I1, r1, q1⟩)
def tIfS (c : TT) (t u : TS) : TS := fun D σ H => c σ H fun b H1 => if b = true then t D σ H1 else u D σ H1
theorem ps_if {c : Expr} {a b : List Stmt} {tc : TT} (hc : PT X c tc) (ha : PSs X a t) (hb : PSs X b u) : PS X (.If c a b pos) (tIfS tc t u) := by
  intro pins s σ H D I h
  refine wpAny_If (thn (hc pins s σ H _ I h) fun d s1 ⟨H1, I1, q1⟩ => ?_)
  cases d with
  | true => exact ha pins s1 σ H1 D I1 q1
  | false => exact hb pins s1 σ H1 D I1 q1
end

/-! ### targets -/
abbrev TG := V → St → Hp → (St → Hp → Prop) → Prop
abbrev TGs := List V → St → Hp → (St → Hp → Prop) → Prop
def PG (X : Cx) (target : Expr) (t : TG) : Prop :=
  ∀ (pins : List (Addr × Obj)) (s : Shared) (σ : St) (H : Hp) (v : V) (u : Value) (Q : St → Hp → Prop), Inv X pins σ H s → RelV v u → t v σ H Q →
    wpAny (model X.prog X.w) X.A (assign target X.env u) (fun _ s' => ∃ σ' H', Inv X pins σ' H' s' ∧ Q σ' H') X.xe s
/-- several targets, one after another -/
def PGs (X : Cx) (ts : List Expr) (t : TGs) : Prop :=
  ∀ (pins : List (Addr × Obj)) (s : Shared) (σ : St) (H : Hp) (vs : List V) (us : List Value) (Q : St → Hp → Prop), Inv X pins σ H s → Vals vs us → t vs σ H Q →
    wpAny (model X.prog X.w) X.A (assignInOrder ((assignEach ts X.env).map (·.2)) us) (fun _ s' => ∃ σ' H', Inv X pins σ' H' s' ∧ Q σ' H') X.xe s
/-- o[i] = v, by values -/
abbrev TSet := V → V → V → Hp → (Hp → Prop) → Prop
def PSet (X : Cx) (t : TSet) : Prop :=
  ∀ (pins : List (Addr × Obj)) (s : Shared) (σ : St) (H : Hp) (o i v : V) (ov iv u : Value) (Q : Hp → Prop), Inv X pins σ H s → RelV o ov → RelV i iv → RelV v u → t o i v H Q →
    wpAny (model X.prog X.w) X.A (setItem ov iv u) (fun _ s' => ∃ H', Inv X pins σ H' s' ∧ Q H') X.xe s
section
variable {X : Cx} {pos : Pos}
def gName (i : Nat) : TG := fun v σ H Q => Q (σ.set i (some v)) H
theorem pg_name {i : Nat} {x : Str} (hN : X.N.Nodup) (hi : X.N[i]? = some x) (hx : Loc X.env.scope x) (hf : X.fn x = true ∨ X.env.scope.names.lookup x = some .local := by first | exact .inl rfl | exact .inr rfl | assumption) : PG X (.Name x pos) (gName i) := by
  intro pins s σ H v u Q I r h
  exact wpAny_assign_Name (store_ok I hN hi hx r (fun s' I' => ⟨_, H, I', h⟩) hf)
def gNil : TGs := fun vs σ H Q => vs = [] ∧ Q σ H
def gCons (t : TG) (u : TGs) : TGs := fun vs σ H Q => ∃ v r, vs = v :: r ∧ t v σ H fun σ' H' => u r σ' H' Q
theorem pgs_nil : PGs X [] gNil := by
  intro pins s σ H vs us Q I r h
  obtain ⟨e, h⟩ := h
  subst e
  cases r
  exact assignInOrder_nil ⟨σ, H, I, h⟩
theorem pgs_cons {e : Expr} {es : List Expr} {t : TG} {u : TGs} (h1 : PG X e t) (h2 : PGs X es u)
    (hs : (assignEach (e :: es) X.env).map (·.2) = assign e X.env :: (assignEach es X.env).map (·.2) := by rfl) : PGs X (e :: es) (gCons t u) := by
  intro pins s σ H vs us Q I r h
  obtain ⟨v, vr, e1, h⟩ := h
  subst e1
  cases r with
  | cons r rr =>
    rw [hs]
    refine assignInOrder_cons (thn (h1 pins s σ H _ _ _ I r h) fun _ s1 ⟨σ1, H1, I1, q1⟩ => ?_)
    exact h2 pins s1 σ1 H1 _ _ Q I1 rr q1
/-- (a, b, ..) = a tuple of that length -/
def gTup (K : PySem.W.Frag) (n : Nat) (t : TGs) : TG := fun v σ H Q => ∃ a xs, v = .ref a ∧ SqT K H a xs ∧ xs.length = n ∧ t xs σ H Q
theorem pg_tup {es : List Expr} {k : Nat} {t : TGs} {n : Nat} (hc : X.calm = true) (h : PGs X es t)
    (hn : (assignEach es X.env).length = n := by rfl) (hst : (assignEach es X.env).findIdx? (·.1) = none := by rfl) : PG X (.Tuple es k pos) (gTup X.K n t) := by
  intro pins s σ H v u Q I r hw
  obtain ⟨a, xs, e1, hq, hl, hw⟩ := hw
  subst e1
  cases r
  obtain ⟨its, rv, ht, hz⟩ := I.tuple hq
  refine assign_Tuple_tuple (I.ok.hd hc) ht (by simp [hn, ← hl, rv.length]) hst fun h' hx => ?_
  have I1 : Inv X pins σ H { s with heap := h' } := I.kept (t' := s.toks) fun b o e => hx b o (Nat.ne_of_lt (Heap.lt_size e)) e
  exact h pins _ σ H xs _ Q I1 (by simpa using rv) hw
/-- o[i] = .. -/
def gSub (to ti : TE) (t : TSet) : TG := fun v σ H Q => to σ H fun o H1 => ti σ H1 fun i H2 => t o i v H2 fun H3 => Q σ H3
theorem pg_sub {o i : Expr} {to ti : TE} {t : TSet} (ho : PE X o to) (hi : PE X i ti) (hs : PSet X t)
    (ha : ∀ v, assign (.Subscript o i pos) X.env v = (do
      let ov ← holding [v] (eval o X.env)
      let iv ← holding [v, ov] (eval i X.env)
      standAt pos
      holding [v, ov, iv] (setItem ov iv v)
      release [v, ov, iv] []) := by intro _; rfl) : PG X (.Subscript o i pos) (gSub to ti t) := by
  intro pins s σ H v u Q I r h
  rw [ha]
  refine wpAny_bind (wpAny_holding (thn (ho pins s σ H _ I h) fun ov s1 ⟨x, H1, I1, r1, q1⟩ => ?_))
  refine wpAny_bind (wpAny_holding (thn (hi pins s1 σ H1 _ I1 q1) fun iv s2 ⟨y, H2, I2, r2, q2⟩ => ?_))
  refine wpAny_bind (wpAny_standAt (wpAny_bind (wpAny_holding (thn (hs pins s2 σ H2 x y v ov iv u _ I2 r1 r2 r q2) fun _ s3 ⟨H3, I3, q3⟩ => ?_))))
  exact wpAny_release ⟨σ, H3, I3, q3⟩
/-- target = value -/
def tAsg (te : TE) (g : TG) : TS := fun D σ H => te σ H fun x H1 => g x σ H1 D.nx
theorem ps_asg {tg e : Expr} {te : TE} {g : TG} (he : PE X e te) (hg : PG X tg g) (hs : swapsWithSole [tg] e pos.line X.env = pure false := by rfl) (hw : swappedStores [tg] e X.env = pure none := by rfl)
    (h1 : (assignEach [tg] X.env).map (·.2) = [assign tg X.env] := by rfl) : PS X (.Assign [tg] e pos) (tAsg te g) := by
  intro pins s σ H D I h
  refine wpAny_Assign_stores (thn (he pins s σ H _ I h) fun v s1 ⟨x, H1, I1, r1, q1⟩ => ?_) hs hw
  rw [h1]
  exact thn (hg pins s1 σ H1 x v _ I1 r1 q1) fun _ s2 q => q
/-- name = value -/
theorem ps_set {i : Nat} {x : Str} {e : Expr} {te : TE} {pos' : Pos} (hN : X.N.Nodup) (hi : X.N[i]? = some x) (hx : Loc X.env.scope x) (he : PE X e te) (hs : swapsWith e (some (.Name x pos')) pos.line X.env = pure false := by rfl) (hf : X.fn x = true ∨ X.env.scope.names.lookup x = some .local := by first | exact .inl rfl | exact .inr rfl | assumption) :
    PS X (.Assign [.Name x pos'] e pos) (tAsg te (gName i)) := by
  intro pins s σ H D I h
  refine wpAny_Assign_Name (thn (he pins s σ H _ I h) fun v s1 ⟨y, H1, I1, r1, q1⟩ => ?_) hs
  exact store_ok I1 hN hi hx r1 (fun s2 I2 => ⟨_, H1, I2, q1⟩) hf
end

/-! ### while -/
section
variable {X : Cx} {pos : Pos}
/-- the invariant W with its measure -/
def tWhile (c : TT) (tb : TS) : TS := fun D σ H => ∃ W : Nat → St → Hp → Prop, (∃ m, W m σ H) ∧ ∀ m σ H, W m σ H →
  c σ H fun b H1 => if b = true then ∃ N : St → Hp → Prop, (∀ σ' H', N σ' H' → ∃ m', m' < m ∧ W m' σ' H') ∧ tb { D with nx := N, ct := N, bk := D.nx } σ H1 else D.nx σ H1
theorem ps_while {c : Expr} {body : List Stmt} {tc : TT} {tb : TS} (hp : PassesOwn (model X.prog X.w) X.A X.env X.xe) (hc : PT X c tc) (hb : PSs X body tb) : PS X (.While c body [] pos) (tWhile tc tb) := by
  intro pins s σ H D I h
  obtain ⟨W, ⟨m0, w0⟩, turn⟩ := h
  refine wpAny_While (codeAny_whileLoop (fun n s' => ∃ σ' H', Inv X pins σ' H' s' ∧ W n σ' H') ?_ m0 ⟨σ, H, I, w0⟩)
  rintro n s1 ⟨σ1, H1, I1, w1⟩
  refine wpAny_passesOwn hp (thn (hc pins s1 σ1 H1 _ I1 (turn n σ1 H1 w1)) fun b s2 ⟨H2, I2, q2⟩ => ?_)
  cases b with
  | true =>
    obtain ⟨N, hN, q2⟩ := q2
    rw [if_pos rfl]
    refine wpAny_passesOwn hp (thn (hb pins s2 σ1 H2 _ I2 q2) fun f s3 q3 => ?_)
    cases f with
    | next =>
      obtain ⟨σ3, H3, I3, n3⟩ := q3
      obtain ⟨m', hm, w3⟩ := hN σ3 H3 n3
      exact ⟨m', hm, σ3, H3, I3, w3⟩
    | cont =>
      obtain ⟨σ3, H3, I3, n3⟩ := q3
      obtain ⟨m', hm, w3⟩ := hN σ3 H3 n3
      exact ⟨m', hm, σ3, H3, I3, w3⟩
    | brk => exact q3
    | ret v => exact q3
  | false =>
    rw [if_neg Bool.false_ne_true]
    exact wpAny_execs_nil ⟨σ1, H2, I2, q2⟩
end

/-! ### what a loop or a comprehension walks -/
/-- at turn i: it yields x (the heap may grow), or it stops -/
structure It where
  go : Nat → Hp → Prop
  yld : Nat → Hp → V → Hp → Prop
  stop : Nat → Hp → Prop
/-- the iterator's own objects may turn: they are not the frame's, not pinned, younger than the entry (or a comprehension's own) -/
def FpOk (X : Cx) (pins : List (Addr × Obj)) (H : Hp) (b : Addr) : Prop :=
  H b = none ∧ b ≠ X.env.locals ∧ b ∉ X.fs ∧ (b ∈ X.ex ∨ X.s₀.heap.objs.size ≤ b) ∧ (∀ x c, X.env.cells.lookup x = some c → c ≠ b) ∧ ∀ p ∈ X.pn ++ pins, p.1 ≠ b
theorem Inv.fpOk {X : Cx} {pins : List (Addr × Obj)} {σ : St} {H H' : Hp} {s : Shared} {b : Addr} (I : Inv X pins σ H s) (hb : s.heap.objs.size ≤ b) (hn : H' b = none) : FpOk X pins H' b := by
  refine ⟨hn, Nat.ne_of_gt (Nat.lt_of_lt_of_le I.lt hb), I.nofs hb, .inr (Nat.le_trans I.sz hb), fun x c e z => ?_, fun p hp z => ?_⟩
  · obtain ⟨v, q⟩ := I.cell x c e
    exact absurd (Nat.lt_of_lt_of_le q.lt (by rw [z]; exact hb)) (Nat.lt_irrefl _)
  · exact absurd (Nat.lt_of_lt_of_le (Heap.lt_size (I.pin p hp).1) (by rw [z]; exact hb)) (Nat.lt_irrefl _)
structure Turn (P : Program) (w : World) (K : PySem.W.Frag) (tg : Expr) (J : It) (fp : List Addr) (it : Addr) (tn : Nat → Heap → Prop) : Prop where
  mem : it ∈ fp
  obj : ∀ i h, tn i h → ∀ b ∈ fp, ∃ o, h.get? b = some o ∧ ∀ v, o.data ≠ .cell v
  keep : ∀ i h h', tn i h → (∀ b ∈ fp, ∀ o, h.get? b = some o → h'.get? b = some o) → tn i h'
  item : ∀ (X : Cx), X.prog = P → X.w = w → X.K = K → X.calm = true → ∀ (i : Nat) (pins : List (Addr × Obj)) (s : Shared) (σ : St) (H : Hp) (E : Value → Shared → Prop), Inv X pins σ H s → (∀ b ∈ fp, FpOk X pins H b) → tn i s.heap → J.go i H →
    wpAny (model P w) X.A (pyNext (.ref it)) (fun r s1 => ∃ u, r = some u ∧
      wpAny (model P w) X.A (letOwnedTupleGo tg (.ref it) u) (fun _ s2 => ∃ x H', Inv X pins σ H' s2 ∧ RelV x u ∧ J.yld i H x H' ∧ tn (i + 1) s2.heap ∧ ∀ b ∈ fp, H' b = none) E s1) E s
  done : ∀ (X : Cx), X.prog = P → X.w = w → X.K = K → X.calm = true → ∀ (i : Nat) (pins : List (Addr × Obj)) (s : Shared) (σ : St) (H : Hp) (E : Value → Shared → Prop), Inv X pins σ H s → (∀ b ∈ fp, FpOk X pins H b) → tn i s.heap → J.stop i H →
    wpAny (model P w) X.A (pyNext (.ref it)) (fun r s1 => r = none ∧ Inv X pins σ H s1) E s
  self : ∀ (A : Around) (i : Nat) (s : Shared) (Q : Value → Shared → Prop) (E : Value → Shared → Prop), tn i s.heap → Q (.ref it) s → wpAny (model P w) A (pyIter (.ref it)) Q E s
abbrev TI := St → Hp → (It → Hp → Prop) → Prop
/-- an iterator has come -/
def PIE (X : Cx) (pins : List (Addr × Obj)) (σ : St) (tg : Expr) (R : It → Hp → Prop) (itv : Value) (s2 : Shared) : Prop :=
  ∃ (it : Addr) (fp : List Addr) (tn : Nat → Heap → Prop) (J : It) (H' : Hp), itv = .ref it ∧ Inv X pins σ H' s2 ∧ Turn X.prog X.w X.K tg J fp it tn ∧ tn 0 s2.heap ∧ (∀ b ∈ fp, FpOk X pins H' b) ∧ R J H'
def PI (X : Cx) (tg iter : Expr) (wi : TI) : Prop :=
  ∀ (pins : List (Addr × Obj)) (s : Shared) (σ : St) (H : Hp) (R : It → Hp → Prop), Inv X pins σ H s → wi σ H R →
    wpAny (model X.prog X.w) X.A (eval iter X.env) (fun v s1 => wpAny (model X.prog X.w) X.A (pyIter v) (PIE X pins σ tg R) X.xe s1) X.xe s

/-- the step ahead of the store is nothing for an iterator that keeps no tuple -/
theorem go_of {M : Model} {A : Around} {E : Value → Shared → Prop} {s : Shared} {tg : Expr} {it : Addr} {u : Value} {o : Obj} {n : String} {vs : Array Value} {Q : Unit → Shared → Prop} (ho : s.heap.get? it = some o) (hc : o.cls = .type n) (hd : o.data = .fields vs)
    (hn : ["enumerate", "zip", "dict_itemiterator", "dict_reverseitemiterator", "odict_iterator", "itertools.zip_longest", "itertools.pairwise"].contains n = false) (hQ : Q () s) : wpAny M A (letOwnedTupleGo tg (.ref it) u) Q E s := by
  unfold letOwnedTupleGo
  cases tg <;> first
    | exact wpAny_pure hQ
    | (cases u <;> first
        | exact wpAny_pure hQ
        | (refine wpAny_bind (wpAny_load ho ?_)
           rw [hc, hd]
           show wpAny M A (if (["enumerate", "zip", "dict_itemiterator", "dict_reverseitemiterator", "odict_iterator", "itertools.zip_longest", "itertools.pairwise"].contains n && vs[0]? == some (rawInt _)) = true then _ else _) Q E s
           rw [if_neg (by intro h; rw [hn, Bool.false_and] at h; cases h)]
           exact wpAny_pure hQ))

/-- the list at a, as it stands at each turn (a loop may append to it) -/
def Itl (K : PySem.W.Frag) (a : Addr) : It :=
  ⟨fun i H => ∃ xs x, SqL K H a xs ∧ xs[i]? = some x, fun i H x H' => H' = H ∧ ∀ xs, SqL K H a xs → xs[i]? = some x, fun i H => ∃ xs, SqL K H a xs ∧ xs.length ≤ i⟩
/-- lo, lo + 1, .. (n of them) -/
def Itr (lo : Int) (n : Nat) : It := ⟨fun i _ => i < n, fun i H x H' => H' = H ∧ x = .int (lo + i), fun i _ => n ≤ i⟩
theorem turn_list {P : Program} {w : World} {K : PySem.W.Frag} {tg : Expr} (a it : Addr) : Turn P w K tg (Itl K a) [it] it (fun i h => h.IsListIter it a i) where
  mem := by simp
  obj := fun i h st b hb => by
    have e : b = it := by simpa using hb
    subst e
    obtain ⟨o, e, c, d⟩ := st
    exact ⟨o, e, fun v z => by rw [d] at z; cases z⟩
  keep := fun i h h' st k => st.at fun o e => k it (by simp) o e
  item := by
    intro X hP hw hK hc i pins s σ H E I hf st hg
    subst hP hw hK
    obtain ⟨xs, x, hq, hx⟩ := hg
    obtain ⟨its, rv, p, hz⟩ := I.list hq
    obtain ⟨u, hu, ru⟩ := rv.get hx
    obtain ⟨f0, f1, f2, f3, f4, f5⟩ := hf it (by simp)
    refine wpAny_pyNext_list_item st p.isList (x := u) (by simpa using hu) fun h' st' sb => ?_
    have I1 : Inv X pins σ H { s with heap := h' } := I.turned (t' := s.toks) (fun b o hb e => (sb.2 b hb).trans e) f0 f1 f3 f4 f5
    obtain ⟨o, e, c, d⟩ := id st'
    exact ⟨u, rfl, go_of (s := { s with heap := h' }) e c d (by decide) ⟨x, H, I1, ru, ⟨rfl, fun ys hy => by rw [I.list_inj hy hq]; exact hx⟩, st', fun b hb => (hf b hb).1⟩⟩
  done := by
    intro X hP hw hK hc i pins s σ H E I hf st hg
    subst hP hw hK
    obtain ⟨xs, hq, hx⟩ := hg
    obtain ⟨its, rv, p, hz⟩ := I.list hq
    obtain ⟨f0, f1, f2, f3, f4, f5⟩ := hf it (by simp)
    have hl := rv.length
    exact wpAny_pyNext_list_end (I.ok.hd hc) st p.isList (by simp; omega) fun h' eb => ⟨rfl, I.turned (t' := s.toks) (fun b o hb e => eb b o hb e) f0 f1 f3 f4 f5⟩
  self := fun _ _ _ _ _ st h => wpAny_pyIter_listiter st h
theorem turn_range {P : Program} {w : World} {K : PySem.W.Frag} {tg : Expr} (it : Addr) (lo : Int) (n : Nat) : Turn P w K tg (Itr lo n) [it] it (fun i h => IsRangeIter h it (lo + (i : Nat) * 1) ((n : Int) - (i : Nat)) 1) where
  mem := by simp
  obj := fun i h st b hb => by
    have e : b = it := by simpa using hb
    subst e
    exact ⟨_, st, fun v z => by
      have z' : Data.fields _ = Data.cell v := z
      cases z'⟩
  keep := fun i h h' st k => k it (by simp) _ st
  item := by
    intro X hP hw hK hc i pins s σ H E I hf st hg
    subst hP hw hK
    obtain ⟨f0, f1, f2, f3, f4, f5⟩ := hf it (by simp)
    have W := Walks.range (prog := X.prog) (w := X.w) (I.ok.hd hc) it lo 1 n
    refine W.item i s _ _ hg st fun v h' tk hv st' kk => ?_
    obtain ⟨t, rfl⟩ := hv
    have I1 : Inv X pins σ H { s with heap := h', toks := tk } := I.turned (fun b o hb e => kk b o (by simpa using hb) e) f0 f1 f3 f4 f5
    refine ⟨_, rfl, go_of (s := { s with heap := h', toks := tk }) (n := "range_iterator") st' rfl rfl (by decide) ⟨.int (lo + i), H, I1, ⟨t, ?_⟩, ⟨rfl, rfl⟩, st', fun b hb => (hf b hb).1⟩⟩
    rw [Int.mul_one]
  done := by
    intro X hP hw hK hc i pins s σ H E I hf st hg
    subst hP hw hK
    obtain ⟨f0, f1, f2, f3, f4, f5⟩ := hf it (by simp)
    exact wpAny_pyNext_range_end (I.ok.hd hc) st (by have : n ≤ i := hg; omega) fun h' eb => ⟨rfl, I.turned (t' := s.toks) (fun b o hb e => eb b o hb e) f0 f1 f3 f4 f5⟩
  self := fun _ _ _ _ _ st h => wpAny_pyIter_rangeiter st h
end L2

namespace L2
open PySem PySem.Spec PyProof.Rows
section
variable {X : Cx} {tg : Expr}
def iList (K : PySem.W.Frag) (tl : TE) : TI := fun σ H R => tl σ H fun x H1 => ∃ a, x = .ref a ∧ (∃ xs, SqL K H1 a xs) ∧ R (Itl K a) H1
theorem pi_list {l : Expr} {tl : TE} (hl : PE X l tl) : PI X tg l (iList X.K tl) := by
  intro pins s σ H R I h
  refine thn (hl pins s σ H _ I h) fun v s1 ⟨x, H1, I1, r1, q1⟩ => ?_
  obtain ⟨a, e, ⟨xs, hq⟩, q⟩ := q1
  subst e
  cases r1
  obtain ⟨its, rv, p, hz⟩ := I1.list hq
  refine wpAny_pyIter_list p.isList ?_
  refine ⟨s1.heap.objs.size, [s1.heap.objs.size], _, _, H1, rfl, I1.kept (t' := s1.toks) fun b o e => Heap.get?_push_of_some _ e, turn_list a _, ⟨_, Heap.get?_push_size _ rfl, rfl, rfl⟩, fun b hb => ?_, q⟩
  have e : b = s1.heap.objs.size := by simpa using hb
  subst e
  exact I1.fpOk (Nat.le_refl _) (I1.hok.fresh (Nat.le_refl _))
/-- a range object just made, walked -/
theorem range_it {pins : List (Addr × Obj)} {σ : St} {H : Hp} {s : Shared} {R : It → Hp → Prop} {E : Value → Shared → Prop} {lo hi : Int} {t u v : Tok} {tk : Nat} (I : Inv X pins σ H s) (h1 : -(2 ^ 62) ≤ lo) (h2 : lo < 2 ^ 62) (h3 : -(2 ^ 62) ≤ hi) (h4 : hi < 2 ^ 62)
    (q : R (Itr lo (hi - lo).toNat) H) : wpAny (model X.prog X.w) X.A (pyIter (.ref s.heap.objs.size)) (PIE X pins σ tg R) E { s with heap := s.heap.push { cls := .type "range", data := .fields #[.int lo t, .int hi u, .int 1 v] }, toks := tk } := by
  refine wpAny_pyIter_range (IsRange.new ..) (small_one h1 h2 h3 h4) ?_
  have I1 : Inv X pins σ H { s with heap := s.heap.push { cls := .type "range", data := .fields #[.int lo t, .int hi u, .int 1 v] }, toks := tk } := I.kept fun b o e => Heap.get?_push_of_some _ e
  refine ⟨(s.heap.push { cls := .type "range", data := .fields #[.int lo t, .int hi u, .int 1 v] }).objs.size, [(s.heap.push { cls := .type "range", data := .fields #[.int lo t, .int hi u, .int 1 v] }).objs.size], _, _, H, rfl,
    I1.kept (t' := tk) fun b o e => Heap.get?_push_of_some _ e, turn_range _ lo (hi - lo).toNat, ?_, fun b hb => ?_, q⟩
  · have e1 : lo + ((0 : Nat) : Int) * 1 = lo := by simp
    have e2 : (((hi - lo).toNat : Nat) : Int) - ((0 : Nat) : Int) = Builtin.Range.rangeSize lo hi 1 := by rw [rangeSize_one]; split <;> omega
    show IsRangeIter _ _ (lo + ((0 : Nat) : Int) * 1) ((((hi - lo).toNat : Nat) : Int) - ((0 : Nat) : Int)) 1
    rw [e1, e2]
    exact Heap.get?_push_size _ rfl
  · have e : b = (s.heap.push { cls := .type "range", data := .fields #[.int lo t, .int hi u, .int 1 v] }).objs.size := by simpa using hb
    subst e
    exact I1.fpOk (Nat.le_refl _) (I1.hok.fresh (Nat.le_refl _))
def iRng1 (ta : TA) : TI := fun σ H R => ta σ H fun vs H1 => ∃ j : Int, vs = [.int j] ∧ -(2 ^ 62) ≤ j ∧ j < 2 ^ 62 ∧ R (Itr 0 j.toNat) H1
theorem pi_range1 {a : Expr} {ta : TA} {p pos : Pos} (hg : Gl X "range") (hm : X.mg "range" = none) (ha : PA X [a] ta) (hs : starEach [a] X.env = [(false, eval a X.env)] := by rfl) : PI X tg (.Call (.Name "range" p) [a] [] pos) (iRng1 ta) := by
  intro pins s σ H R I h
  refine Call_ (ld_blt I hg hm boot_range (PyProof.Rows.callWith_type1 (thn (ha pos pins s σ H _ I h) fun us s1 ⟨vs, H1, I1, r1, q1⟩ => ?_) hs rfl))
  obtain ⟨j, e, q1, q2, q⟩ := q1
  subst e
  cases r1 with
  | cons r rr =>
    cases rr
    obtain ⟨t, rfl⟩ := r
    exact call_range_1 (range_it I1 (by omega) (by omega) q1 q2 (by simpa using q))

/-! ### for -/
/-- W: the invariant by the turn and a measure; N: what the body is to reach -/
def tFor (wi : TI) (g : TG) (tb : TS) : TS := fun D σ H => wi σ H fun J H1 => ∃ W : Nat → Nat → St → Hp → Prop, (∃ m, W 0 m σ H1) ∧ ∀ i m σ H, W i m σ H →
  (J.stop i H ∧ D.nx σ H) ∨ (J.go i H ∧ ∃ N : St → Hp → Prop, (∀ σ' H', N σ' H' → ∃ m', m' < m ∧ W (i + 1) m' σ' H') ∧ ∀ x H', J.yld i H x H' → g x σ H' fun σ2 H2 => tb { D with nx := N, ct := N, bk := D.nx } σ2 H2)
/-- the records at fp as they stand -/
def pinsAt (fp : List Addr) (h : Heap) : List (Addr × Obj) := fp.filterMap fun b => (h.get? b).map fun o => (b, o)
theorem mem_pinsAt {fp : List Addr} {h : Heap} {b : Addr} {o : Obj} (hb : b ∈ fp) (e : h.get? b = some o) : (b, o) ∈ pinsAt fp h := List.mem_filterMap.mpr ⟨b, hb, by rw [e]; rfl⟩
theorem of_pinsAt {fp : List Addr} {h : Heap} {p : Addr × Obj} (hp : p ∈ pinsAt fp h) : p.1 ∈ fp ∧ h.get? p.1 = some p.2 := by
  obtain ⟨b, hb, e⟩ := List.mem_filterMap.mp hp
  cases q : h.get? b with
  | none => rw [q] at e; cases e
  | some o =>
    rw [q] at e
    have e' : (b, o) = p := Option.some.inj e
    subst e'
    exact ⟨hb, q⟩
theorem Inv.pinned {pins : List (Addr × Obj)} {σ : St} {H : Hp} {s : Shared} {fp : List Addr} (I : Inv X pins σ H s) (hf : ∀ b ∈ fp, FpOk X pins H b) (ho : ∀ b ∈ fp, ∃ o, s.heap.get? b = some o ∧ ∀ v, o.data ≠ .cell v) : Inv X (pins ++ pinsAt fp s.heap) σ H s :=
  I.pins_of fun p hp => (List.mem_append.mp hp).elim (fun z => I.pin p (List.mem_append_right _ z)) fun z => by
    obtain ⟨hb, e⟩ := of_pinsAt z
    obtain ⟨f0, f1, f2, _⟩ := hf p.1 hb
    obtain ⟨o, e', d⟩ := ho p.1 hb
    rw [e] at e'; cases e'
    exact ⟨e, f0, f1, f2, d⟩
theorem Inv.unpinned {pins pl : List (Addr × Obj)} {σ : St} {H : Hp} {s : Shared} (I : Inv X (pins ++ pl) σ H s) : Inv X pins σ H s := I.pins_of fun p hp => I.pin p (List.mem_append_right _ (List.mem_append_left _ hp))
theorem ps_for {iter : Expr} {body : List Stmt} {wi : TI} {g : TG} {tb : TS} {pos : Pos} (hp : PassesOwn (model X.prog X.w) X.A X.env X.xe) (hc : X.calm = true) (hi : PI X tg iter wi) (hg : PG X tg g) (hb : PSs X body tb)
    (hs : ∀ x, foldedSetIterable iter X.env x = pure x := by intro _; rfl) : PS X (.For tg iter body [] pos) (tFor wi g tb) := by
  intro pins s σ H D I h
  refine wpAny_For (thn (hi pins s σ H _ I h) fun v s1 h1 => thn h1 fun itv s2 h2 => ?_) hs
  obtain ⟨it, fp, tn, J, H2, e, I2, T, st2, f2, W, ⟨m0, w0⟩, turn⟩ := h2
  subst e
  -- what stays true of the iterator's objects through the loop
  have stat : ∀ {H' : Hp}, (∀ b ∈ fp, H' b = none) → ∀ b ∈ fp, FpOk X pins H' b := fun hn b hb => ⟨hn b hb, (f2 b hb).2⟩
  refine codeAny_forLoop_any (fun n s' => ∃ i σ' H', Inv X pins σ' H' s' ∧ tn i s'.heap ∧ (∀ b ∈ fp, H' b = none) ∧ W i n σ' H') ?_ m0 ⟨0, σ, H2, I2, st2, fun b hb => (f2 b hb).1, w0⟩
  rintro n s3 ⟨i, σ3, H3, I3, st3, fr3, w3⟩
  rcases turn i n σ3 H3 w3 with ⟨stop, qn⟩ | ⟨go, N, hN, step⟩
  · refine wpAny_passesOwn hp (thn (T.done X rfl rfl rfl hc i pins s3 σ3 H3 X.xe I3 (stat fr3) st3 stop) fun r s4 ⟨hr, I4⟩ => ?_)
    subst hr
    exact wpAny_execs_nil ⟨σ3, H3, I4, qn⟩
  · refine wpAny_passesOwn hp (thn (T.item X rfl rfl rfl hc i pins s3 σ3 H3 X.xe I3 (stat fr3) st3 go) fun r s4 ⟨u, hr, h4⟩ => ?_)
    subst hr
    refine wpAny_passesOwn hp (thn h4 fun _ s5 ⟨x, H5, I5, r5, y5, st5, fr5⟩ => ?_)
    have I5' := I5.pinned (stat fr5) (T.obj _ _ st5)
    refine wpAny_passesOwn hp (thn (hg _ s5 σ3 H5 x u _ I5' r5 (step x H5 y5)) fun _ s6 ⟨σ6, H6, I6, q6⟩ => ?_)
    refine wpAny_passesOwn hp (thn (hb _ s6 σ6 H6 _ I6 q6) fun f s7 q7 => ?_)
    have again : ∀ {σ7 : St} {H7 : Hp}, Inv X (pins ++ pinsAt fp s5.heap) σ7 H7 s7 → N σ7 H7 → ∃ m, m < n ∧ ∃ i σ' H', Inv X pins σ' H' s7 ∧ tn i s7.heap ∧ (∀ b ∈ fp, H' b = none) ∧ W i m σ' H' := fun {σ7 H7} I7 n7 => by
      obtain ⟨m', hm, w7⟩ := hN σ7 H7 n7
      refine ⟨m', hm, i + 1, σ7, H7, I7.unpinned, T.keep _ _ _ st5 fun b hb o e => (I7.pin (b, o) (List.mem_append_right _ (List.mem_append_right _ (mem_pinsAt hb e)))).1, fun b hb => ?_, w7⟩
      obtain ⟨o, e, d⟩ := T.obj _ _ st5 b hb
      exact (I7.pin (b, o) (List.mem_append_right _ (List.mem_append_right _ (mem_pinsAt hb e)))).2.1
    cases f with
    | next => obtain ⟨σ7, H7, I7, n7⟩ := q7; exact again I7 n7
    | cont => obtain ⟨σ7, H7, I7, n7⟩ := q7; exact again I7 n7
    | brk => obtain ⟨σ7, H7, I7, q7⟩ := q7; exact ⟨σ7, H7, I7.unpinned, q7⟩
    | ret v => obtain ⟨x7, σ7, H7, I7, r7, q7⟩ := q7; exact ⟨x7, σ7, H7, I7.unpinned, r7, q7⟩
end

/-! ### the forms one uses -/
/-- over a list that the body leaves as it is -/
theorem for_list {K : PySem.W.Frag} {a : Addr} {xs : List V} {g : TG} {tb : TS} {D : Ends} {σ : St} {H : Hp} (Pv : Nat → St → Hp → Prop) (h0 : Pv 0 σ H) (hl : ∀ i σ H, i ≤ xs.length → Pv i σ H → SqL K H a xs)
    (hs : ∀ i x σ H, xs[i]? = some x → Pv i σ H → g x σ H fun σ2 H2 => tb { D with nx := Pv (i + 1), ct := Pv (i + 1), bk := D.nx } σ2 H2) (hd : ∀ σ H, Pv xs.length σ H → D.nx σ H) :
    ∃ W : Nat → Nat → St → Hp → Prop, (∃ m, W 0 m σ H) ∧ ∀ i m σ H, W i m σ H →
      ((Itl K a).stop i H ∧ D.nx σ H) ∨ ((Itl K a).go i H ∧ ∃ N : St → Hp → Prop, (∀ σ' H', N σ' H' → ∃ m', m' < m ∧ W (i + 1) m' σ' H') ∧ ∀ x H', (Itl K a).yld i H x H' → g x σ H' fun σ2 H2 => tb { D with nx := N, ct := N, bk := D.nx } σ2 H2) := by
  refine ⟨fun i m σ H => m = xs.length - i ∧ i ≤ xs.length ∧ Pv i σ H, ⟨xs.length, by simp, Nat.zero_le _, h0⟩, ?_⟩
  rintro i m σ H ⟨rfl, hi, p⟩
  have q := hl i σ H hi p
  by_cases hlt : i < xs.length
  · refine .inr ⟨⟨xs, xs[i], q, by simp [hlt]⟩, Pv (i + 1), fun σ' H' p' => ⟨xs.length - (i + 1), by omega, rfl, hlt, p'⟩, fun x H' y => ?_⟩
    obtain ⟨e, y⟩ := y
    subst e
    exact hs i x σ _ (y xs q) p
  · have e : i = xs.length := by omega
    subst e
    exact .inl ⟨⟨xs, q, Nat.le_refl _⟩, hd σ H p⟩
theorem for_range {lo : Int} {n : Nat} {g : TG} {tb : TS} {D : Ends} {σ : St} {H : Hp} (Pv : Nat → St → Hp → Prop) (h0 : Pv 0 σ H)
    (hs : ∀ i σ H, i < n → Pv i σ H → g (.int (lo + i)) σ H fun σ2 H2 => tb { D with nx := Pv (i + 1), ct := Pv (i + 1), bk := D.nx } σ2 H2) (hd : ∀ σ H, Pv n σ H → D.nx σ H) :
    ∃ W : Nat → Nat → St → Hp → Prop, (∃ m, W 0 m σ H) ∧ ∀ i m σ H, W i m σ H →
      ((Itr lo n).stop i H ∧ D.nx σ H) ∨ ((Itr lo n).go i H ∧ ∃ N : St → Hp → Prop, (∀ σ' H', N σ' H' → ∃ m', m' < m ∧ W (i + 1) m' σ' H') ∧ ∀ x H', (Itr lo n).yld i H x H' → g x σ H' fun σ2 H2 => tb { D with nx := N, ct := N, bk := D.nx } σ2 H2) := by
  refine ⟨fun i m σ H => m = n - i ∧ i ≤ n ∧ Pv i σ H, ⟨n, by simp, Nat.zero_le _, h0⟩, ?_⟩
  rintro i m σ H ⟨rfl, hi, p⟩
  by_cases hlt : i < n
  · refine .inr ⟨hlt, Pv (i + 1), fun σ' H' p' => ⟨n - (i + 1), by omega, rfl, hlt, p'⟩, fun x H' y => ?_⟩
    obtain ⟨e, y⟩ := y
    subst e y
    exact hs i σ _ hlt p
  · have e : i = n := by omega
    subst e
    exact .inl ⟨Nat.le_refl _, hd σ H p⟩
/-- while, by a word and a measure of the state -/
theorem while_by {c : TT} {tb : TS} {D : Ends} {σ : St} {H : Hp} (Pv : St → Hp → Prop) (μ : St → Hp → Nat) (h0 : Pv σ H)
    (hs : ∀ σ H, Pv σ H → c σ H fun b H1 => if b = true then tb { D with nx := fun σ' H' => Pv σ' H' ∧ μ σ' H' < μ σ H, ct := fun σ' H' => Pv σ' H' ∧ μ σ' H' < μ σ H, bk := D.nx } σ H1 else D.nx σ H1)
    (mono : ∀ σ H Q Q', (∀ b H1, Q b H1 → Q' b H1) → c σ H Q → c σ H Q') : tWhile c tb D σ H := by
  refine ⟨fun m σ H => m = μ σ H ∧ Pv σ H, ⟨_, rfl, h0⟩, ?_⟩
  rintro m σ H ⟨rfl, p⟩
  refine mono σ H _ _ (fun b H1 q => ?_) (hs σ H p)
  cases b with
  | true => exact ⟨_, fun σ' H' ⟨p', l⟩ => ⟨_, l, rfl, p'⟩, q⟩
  | false => exact q
end L2

namespace L2
open PySem PySem.Spec PyProof.Rows

abbrev R2 := V → V → Hp → VK → Prop
/-- a two-place operation on values: f is binaryOp op, inplaceOp op or compareOp op -/
def OpR (X : Cx) (f : Value → Value → Sem Value) (r : R2) : Prop :=
  ∀ (pins : List (Addr × Obj)) (s : Shared) (σ : St) (H : Hp) (x y : V) (v u : Value) (Q : VK), Inv X pins σ H s → RelV x v → RelV y u → r x y H Q →
    wpAny (model X.prog X.w) X.A (f v u) (EP X pins σ Q) X.xe s
/-- a one-place operation -/
def UnR (X : Cx) (f : Value → Sem Value) (r : V → Hp → VK → Prop) : Prop :=
  ∀ (pins : List (Addr × Obj)) (s : Shared) (σ : St) (H : Hp) (x : V) (v : Value) (Q : VK), Inv X pins σ H s → RelV x v → r x H Q →
    wpAny (model X.prog X.w) X.A (f v) (EP X pins σ Q) X.xe s
/-- a call of a value that is known (a builtin, a type) with values -/
def CallR (X : Cx) (f : Value) (r : List V → Hp → VK → Prop) : Prop :=
  ∀ (pins : List (Addr × Obj)) (s : Shared) (σ : St) (H : Hp) (xs : List V) (us : List Value) (Q : VK), Inv X pins σ H s → Vals xs us → r xs H Q →
    wpAny (model X.prog X.w) X.A (call f us) (EP X pins σ Q) X.xe s
/-- a value's truth -/
def TruR (X : Cx) (r : V → Hp → (Bool → Hp → Prop) → Prop) : Prop :=
  ∀ (pins : List (Addr × Obj)) (s : Shared) (σ : St) (H : Hp) (x : V) (v : Value) (Q : Bool → Hp → Prop), Inv X pins σ H s → RelV x v → r x H Q →
    wpAny (model X.prog X.w) X.A (truthy v) (TP X pins σ Q) X.xe s

def tOp (r : R2) (ta tb : TE) : TE := fun σ H Q => ta σ H fun x H1 => tb σ H1 fun y H2 => r x y H2 Q
def tUn (r : V → Hp → VK → Prop) (ta : TE) : TE := fun σ H Q => ta σ H fun x H1 => r x H1 Q
/-- ints in, under C, and a value out -/
def rI (C : Int → Int → Prop) (g : Int → Int → V) : R2 := fun x y H Q => ∃ i j, x = .int i ∧ y = .int j ∧ C i j ∧ Q (g i j) H
def rI0 (g : Int → Int → V) : R2 := fun x y H Q => ∃ i j, x = .int i ∧ y = .int j ∧ Q (g i j) H
def rU (g : Int → V) : V → Hp → VK → Prop := fun x H Q => ∃ i, x = .int i ∧ Q (g i) H

section
variable {X : Cx} {a b c : Expr} {ta tb tc : TE} {pos : Pos}

theorem binT (ha : PE X a ta) (hb : PE X b tb) {pins : List (Addr × Obj)} {s : Shared} {σ : St} {H : Hp} {R : V → V → Hp → Prop} (I : Inv X pins σ H s)
    (h : ta σ H fun x H1 => tb σ H1 fun y H2 => R x y H2) {Q : Value → Shared → Prop} {f : Value → Value → Sem Value}
    (hf : ∀ v u s2 x y H2, Inv X pins σ H2 s2 → RelV x v → RelV y u → R x y H2 → wpAny (model X.prog X.w) X.A (f v u) Q X.xe s2) :
    wpAny (model X.prog X.w) X.A (eval a X.env) (fun v s₁ => wpAny (model X.prog X.w) X.A (eval b X.env) (fun u s₂ => wpAny (model X.prog X.w) X.A (f v u) Q X.xe s₂) X.xe s₁) X.xe s := by
  refine thn (ha pins s σ H _ I h) fun v s1 ⟨x, H1, I1, r1, q1⟩ => ?_
  refine thn (hb pins s1 σ H1 _ I1 q1) fun u s2 ⟨y, H2, I2, r2, q2⟩ => ?_
  exact hf v u s2 x y H2 I2 r1 r2 q2

theorem pe_op {op : Operator} {r : R2} (ho : OpR X (binaryOp op) r) (ha : PE X a ta) (hb : PE X b tb) : PE X (.BinOp a op b pos) (tOp r ta tb) := by
  intro pins s σ H Q I h
  exact wpAny_BinOp (binT ha hb I h fun v u s2 x y H2 I2 rx ry q => ho pins s2 σ H2 x y v u Q I2 rx ry q)
theorem pe_un {op : UnaryOp} {r : V → Hp → VK → Prop} (ho : UnR X (unaryOp op) r) (ha : PE X a ta) : PE X (.UnaryOp op a pos) (tUn r ta) := by
  intro pins s σ H Q I h
  exact UnaryOp_ (thn (ha pins s σ H _ I h) fun v s1 ⟨x, H1, I1, r1, q1⟩ => ho pins s1 σ H1 x v Q I1 r1 q1)

/-! ### ints -/
theorem opI {f : Value → Value → Sem Value} {C : Int → Int → Prop} {g : Int → Int → Int}
    (rule : ∀ (i j : Int) (t u : Tok) (s : Shared) (Q : Value → Shared → Prop) (E : Value → Shared → Prop), C i j → Q (.int (g i j) s.toks) { s with toks := s.toks + 1 } → wpAny (model X.prog X.w) X.A (f (.int i t) (.int j u)) Q E s) :
    OpR X f (rI C fun i j => .int (g i j)) := by
  intro pins s σ H x y v u Q I rx ry h
  obtain ⟨i, j, rfl, rfl, hc, q⟩ := h
  obtain ⟨t, rfl⟩ := rx
  obtain ⟨t', rfl⟩ := ry
  exact rule i j t t' s _ _ hc ⟨.int (g i j), H, I.tok _, ⟨_, rfl⟩, q⟩
theorem opI0 {f : Value → Value → Sem Value} {g : Int → Int → Int}
    (rule : ∀ (i j : Int) (t u : Tok) (s : Shared) (Q : Value → Shared → Prop) (E : Value → Shared → Prop), Q (.int (g i j) s.toks) { s with toks := s.toks + 1 } → wpAny (model X.prog X.w) X.A (f (.int i t) (.int j u)) Q E s) :
    OpR X f (rI0 fun i j => .int (g i j)) := by
  intro pins s σ H x y v u Q I rx ry h
  obtain ⟨i, j, rfl, rfl, q⟩ := h
  obtain ⟨t, rfl⟩ := rx
  obtain ⟨t', rfl⟩ := ry
  exact rule i j t t' s _ _ ⟨.int (g i j), H, I.tok _, ⟨_, rfl⟩, q⟩
theorem opB0 {f : Value → Value → Sem Value} {g : Int → Int → Bool}
    (rule : ∀ (i j : Int) (t u : Tok) (s : Shared) (Q : Value → Shared → Prop) (E : Value → Shared → Prop), Q (.bool (g i j)) s → wpAny (model X.prog X.w) X.A (f (.int i t) (.int j u)) Q E s) :
    OpR X f (rI0 fun i j => .bl (g i j)) := by
  intro pins s σ H x y v u Q I rx ry h
  obtain ⟨i, j, rfl, rfl, q⟩ := h
  obtain ⟨t, rfl⟩ := rx
  obtain ⟨t', rfl⟩ := ry
  exact rule i j t t' s _ _ ⟨.bl (g i j), H, I, rfl, q⟩

def CDiv (i j : Int) : Prop := 0 < j ∧ j < 1073741824
def CPow (i j : Int) : Prop := 0 ≤ j ∧ j ≤ 1000000 ∧ i.natAbs < 2 ^ 64
def CMul (i j : Int) : Prop := (-(2 ^ 64) < i ∧ i < 2 ^ 64) ∨ (-(2 ^ 64) < j ∧ j < 2 ^ 64)
theorem CMul.ok {i j : Int} (h : CMul i j) : IntMulOk i j := by
  rcases h with ⟨h1, h2⟩ | ⟨h1, h2⟩
  · exact .of_left (intBits_le_64 h1 h2)
  · exact .of_right (intBits_le_64 h1 h2)

theorem op_add : OpR X (binaryOp .Add) (rI0 fun i j => .int (i + j)) := opI0 fun _ _ _ _ _ _ _ q => add_int q
theorem op_sub : OpR X (binaryOp .Sub) (rI0 fun i j => .int (i - j)) := opI0 fun _ _ _ _ _ _ _ q => sub_int q
theorem op_mul : OpR X (binaryOp .Mult) (rI CMul fun i j => .int (i * j)) := opI fun _ _ _ _ _ _ _ hc q => mul_int q hc.ok
/-- // by a positive divisor -/
theorem op_fdiv : OpR X (binaryOp .FloorDiv) (rI CDiv fun i j => .int (i / j)) := opI fun i j _ _ _ _ _ hc q => by
  have h1 : (0 : Int) < j := hc.1
  have h2 : j < 1073741824 := hc.2
  exact floordiv_int (by omega) (by rw [Int.fdiv_eq_ediv_of_nonneg i (by omega)]; exact q) (.inl (PyProof.noPylong_small (by omega)))
/-- % by a positive divisor of any size -/
theorem op_mod : OpR X (binaryOp .Mod) (rI (fun _ j => 0 < j) fun i j => .int (i % j)) := opI fun i j _ _ _ _ _ hc q => by
  have h1 : (0 : Int) < j := hc
  exact mod_int' (by omega) (by rw [Int.fmod_eq_emod_of_nonneg i (by omega)]; exact q)
theorem op_pow : OpR X (binaryOp .Pow) (rI CPow fun i j => .int (i ^ j.toNat)) := opI fun _ _ _ _ _ _ _ hc q => pow_int_small hc.1 hc.2.1 hc.2.2 q


theorem unI {f : Value → Sem Value} {g : Int → Int}
    (rule : ∀ (i : Int) (t : Tok) (s : Shared) (Q : Value → Shared → Prop) (E : Value → Shared → Prop), Q (.int (g i) s.toks) { s with toks := s.toks + 1 } → wpAny (model X.prog X.w) X.A (f (.int i t)) Q E s) :
    UnR X f (rU fun i => .int (g i)) := by
  intro pins s σ H x v Q I rx h
  obtain ⟨i, rfl, q⟩ := h
  obtain ⟨t, rfl⟩ := rx
  exact rule i t s _ _ ⟨.int (g i), H, I.tok _, ⟨_, rfl⟩, q⟩
theorem un_neg : UnR X (unaryOp .USub) (rU fun i => .int (-i)) := unI fun _ _ _ _ _ q => neg_int q

/-! ### bools among ints: n += (a < b) -/
end

/-! ### comparisons -/
/-- the scalars that == tells apart as data does -/
def scal : V → V → Bool
  | .non, .non => true | .non, .int _ => true | .int _, .non => true | .non, .bl _ => true | .bl _, .non => true | .non, .str _ => true | .str _, .non => true
  | .int _, .int _ => true | .bl _, .bl _ => true | .str _, .str _ => true | .byt _, .byt _ => true
  | .int _, .str _ => true | .str _, .int _ => true | .bl _, .str _ => true | .str _, .bl _ => true
  | _, _ => false
def rEq : R2 := fun x y H Q => scal x y = true ∧ Q (.bl (decide (x = y))) H
def rNe : R2 := fun x y H Q => scal x y = true ∧ Q (.bl (!decide (x = y))) H

theorem dec_int {i j : Int} : decide (V.int i = V.int j) = (i == j) := by
  rw [Bool.eq_iff_iff]
  simp
theorem dec_bl {i j : Bool} : decide (V.bl i = V.bl j) = (i == j) := by
  rw [Bool.eq_iff_iff]
  simp
theorem dec_str {i j : Str} : decide (V.str i = V.str j) = (i == j) := by
  rw [Bool.eq_iff_iff]
  simp
theorem dec_byt {i j : Array UInt8} : decide (V.byt i = V.byt j) = (i.toList == j.toList) := by
  rw [Bool.eq_iff_iff]
  cases i
  cases j
  simp

section
variable {X : Cx} {a b c : Expr} {ta tb tc : TE} {pos : Pos}
theorem fin_bl {pins : List (Addr × Obj)} {σ : St} {H : Hp} {s : Shared} {Q : VK} {k k' : Bool} (I : Inv X pins σ H s) (q : Q (.bl k) H) (e : k = k') : EP X pins σ Q (.bool k') s := by
  subst e
  exact ⟨.bl k, H, I, rfl, q⟩
theorem op_eq : OpR X (compareOp .Eq) rEq := by
  intro pins s σ H x y v u Q I rx ry h
  obtain ⟨hs, q⟩ := h
  cases x with
  | non =>
    cases rx
    cases y with
    | non => cases ry; exact PySem.EqNone.eq_none_none (fin_bl I q (by simp))
    | bl j => cases ry; exact PySem.EqNone.eq_none_bool (fin_bl I q (by simp))
    | int j => obtain ⟨t', rfl⟩ := ry; exact PySem.EqNone.eq_none_int (fin_bl I q (by simp))
    | str j => obtain ⟨t', rfl⟩ := ry; exact PySem.EqNone.eq_none_str (fin_bl I q (by simp))
    | _ => exact absurd (show false = true from hs) Bool.false_ne_true
  | bl i =>
    cases rx
    cases y with
    | non => cases ry; exact PySem.EqNone.eq_bool_none (fin_bl I q (by simp))
    | bl j => cases ry; exact eq_bool (fin_bl I q dec_bl)
    | str j => obtain ⟨t', rfl⟩ := ry; exact PySem.EqMixed.eq_bool_str (fin_bl I q (by simp))
    | _ => exact absurd (show false = true from hs) Bool.false_ne_true
  | int i =>
    obtain ⟨t, rfl⟩ := rx
    cases y with
    | non => cases ry; exact PySem.EqNone.eq_int_none (fin_bl I q (by simp))
    | int j => obtain ⟨t', rfl⟩ := ry; exact eq_int (fin_bl I q dec_int)
    | str j => obtain ⟨t', rfl⟩ := ry; exact PySem.EqMixed.eq_int_str (fin_bl I q (by simp))
    | _ => exact absurd (show false = true from hs) Bool.false_ne_true
  | str i =>
    obtain ⟨t, rfl⟩ := rx
    cases y with
    | non => cases ry; exact PySem.EqNone.eq_str_none (fin_bl I q (by simp))
    | bl j => cases ry; exact PySem.EqMixed.eq_str_bool (fin_bl I q (by simp))
    | int j => obtain ⟨t', rfl⟩ := ry; exact PySem.EqMixed.eq_str_int (fin_bl I q (by simp))
    | str j => obtain ⟨t', rfl⟩ := ry; exact eq_str (fin_bl I q dec_str)
    | _ => exact absurd (show false = true from hs) Bool.false_ne_true
  | byt i =>
    obtain ⟨t, rfl⟩ := rx
    cases y with
    | byt j => obtain ⟨t', rfl⟩ := ry; exact PySem.W.eq_bytes (fin_bl I q dec_byt)
    | _ => exact absurd (show false = true from hs) Bool.false_ne_true
  | _ => cases y <;> exact absurd (show false = true from hs) Bool.false_ne_true
theorem op_ne : OpR X (compareOp .NotEq) rNe := by
  intro pins s σ H x y v u Q I rx ry h
  obtain ⟨hs, q⟩ := h
  cases x with
  | non =>
    cases rx
    cases y with
    | non => cases ry; exact PySem.EqNone.ne_none_none (fin_bl I q (by simp))
    | bl j => cases ry; exact PySem.EqNone.ne_none_bool (fin_bl I q (by simp))
    | int j => obtain ⟨t', rfl⟩ := ry; exact PySem.EqNone.ne_none_int (fin_bl I q (by simp))
    | str j => obtain ⟨t', rfl⟩ := ry; exact PySem.EqNone.ne_none_str (fin_bl I q (by simp))
    | _ => exact absurd (show false = true from hs) Bool.false_ne_true
  | bl i =>
    cases rx
    cases y with
    | non => cases ry; exact PySem.EqNone.ne_bool_none (fin_bl I q (by simp))
    | bl j => cases ry; exact ne_bool (fin_bl I q (congrArg not dec_bl))
    | str j => obtain ⟨t', rfl⟩ := ry; exact PySem.EqMixed.ne_bool_str (fin_bl I q (by simp))
    | _ => exact absurd (show false = true from hs) Bool.false_ne_true
  | int i =>
    obtain ⟨t, rfl⟩ := rx
    cases y with
    | non => cases ry; exact PySem.EqNone.ne_int_none (fin_bl I q (by simp))
    | int j => obtain ⟨t', rfl⟩ := ry; exact ne_int (fin_bl I q (congrArg not dec_int))
    | str j => obtain ⟨t', rfl⟩ := ry; exact PySem.EqMixed.ne_int_str (fin_bl I q (by simp))
    | _ => exact absurd (show false = true from hs) Bool.false_ne_true
  | str i =>
    obtain ⟨t, rfl⟩ := rx
    cases y with
    | non => cases ry; exact PySem.EqNone.ne_str_none (fin_bl I q (by simp))
    | bl j => cases ry; exact PySem.EqMixed.ne_str_bool (fin_bl I q (by simp))
    | int j => obtain ⟨t', rfl⟩ := ry; exact PySem.EqMixed.ne_str_int (fin_bl I q (by simp))
    | str j => obtain ⟨t', rfl⟩ := ry; exact ne_str (fin_bl I q (congrArg not dec_str))
    | _ => exact absurd (show false = true from hs) Bool.false_ne_true
  | byt i =>
    obtain ⟨t, rfl⟩ := rx
    cases y with
    | byt j => obtain ⟨t', rfl⟩ := ry; exact PySem.W.ne_bytes (fin_bl I q (congrArg not dec_byt))
    | _ => exact absurd (show false = true from hs) Bool.false_ne_true
  | _ => cases y <;> exact absurd (show false = true from hs) Bool.false_ne_true

theorem op_lt : OpR X (compareOp .Lt) (rI0 fun i j => .bl (decide (i < j))) := opB0 fun _ _ _ _ _ _ _ q => lt_int q
theorem op_gt : OpR X (compareOp .Gt) (rI0 fun i j => .bl (decide (j < i))) := opB0 fun _ _ _ _ _ _ _ q => gt_int q
theorem op_ge : OpR X (compareOp .GtE) (rI0 fun i j => .bl (decide (j ≤ i))) := opB0 fun _ _ _ _ _ _ _ q => ge_int q




theorem nomark (b : Expr) {op : CmpOp} (h : op ≠ .In := by decide) (h2 : op ≠ .NotIn := by decide) : behindInMarks op b = false := by
  have e1 : (op == CmpOp.In) = false := by cases op <;> first | rfl | exact absurd rfl h
  have e2 : (op == CmpOp.NotIn) = false := by cases op <;> first | rfl | exact absurd rfl h2
  cases b <;> simp [behindInMarks, e1, e2]
/-- a comparison as a value; hm: nomark b, or (for in, not in) by with_unfolding_all rfl -/
theorem pe_cmpR {op : CmpOp} {r : R2} (ho : OpR X (compareOp op) r) (ha : PE X a ta) (hb : PE X b tb) (hm : behindInMarks op b = false) : PE X (.Compare a [op] [b] pos) (tOp r ta tb) := by
  intro pins s σ H Q I h
  exact wpAny_Compare1 (binT ha hb I h fun v u s2 x y H2 I2 rx ry q => ho pins s2 σ H2 x y v u Q I2 rx ry q) hm
/-- a reading of a value as a test -/
def tTest (t : TE) : TT := fun σ H Q => t σ H fun x H' => ∃ k, x = .bl k ∧ Q k H'
theorem pt_cmpR {op : CmpOp} {r : R2} (ho : OpR X (compareOp op) r) (ha : PE X a ta) (hb : PE X b tb) (hm : behindInMarks op b = false) : PT X (.Compare a [op] [b] pos) (tTest (tOp r ta tb)) := by
  intro pins s σ H Q I h
  refine wpAny_isTrue_Compare1 (thn (ha pins s σ H _ I h) fun v s1 ⟨x, H1, I1, r1, q1⟩ => thn (hb pins s1 σ H1 _ I1 q1) fun u s2 ⟨y, H2, I2, r2, q2⟩ =>
    thn (ho pins s2 σ H2 x y v u _ I2 r1 r2 q2) fun c s3 ⟨z, H3, I3, r3, k, e, q3⟩ => ?_) hm
  subst e
  cases r3
  exact wpAny_truthy_bool ⟨H3, I3, q3⟩

/-! ### truth -/
/-- a value's truth by the abstract heap -/
def TruV (K : PySem.W.Frag) (x : V) (H : Hp) (k : Bool) : Prop :=
  match x with
  | .non => k = false
  | .bl b => k = b
  | .int i => k = (i != 0)
  | .str y => y.length ≤ sizeLine ∧ k = ((y.length : Int) != 0)
  | .byt y => y.size ≤ sizeLine ∧ k = ((y.size : Int) != 0)
  | .ref p => (∃ xs, SqL K H p xs ∧ k = !xs.isEmpty) ∨ (∃ xs, SqT K H p xs ∧ k = !xs.isEmpty) ∨ ∃ kvs, H p = some (.dK kvs) ∧ k = !kvs.isEmpty
  | _ => False
theorem isEmpty_kv {κ : Type} {kvs : List (κ × V)} {vs : List (κ × Value)} (r : KV kvs vs) : (!vs.isEmpty) = !kvs.isEmpty := by
  cases r <;> rfl
theorem isEmpty_of {xs : List V} {its : List Value} (r : Vals xs its) : (!its.toArray.isEmpty) = !xs.isEmpty := by
  cases r <;> simp
theorem line63 : (sizeLine : Nat) < 2 ^ 63 := by rw [sizeLine_eq]; decide
theorem tru_ok : TruR X (fun x H Q => ∃ k, TruV X.K x H k ∧ Q k H) := by
  intro pins s σ H x v Q I rx h
  obtain ⟨k, e, q⟩ := h
  have hl := line63
  have hs : sizeLine = 16777216 := sizeLine_eq
  cases x with
  | non =>
    cases rx
    have e' : k = false := e
    subst e'
    exact truthy_none ⟨H, I, q⟩
  | bl b =>
    cases rx
    have e' : k = b := e
    subst e'
    exact wpAny_truthy_bool ⟨H, I, q⟩
  | int i =>
    obtain ⟨t, rfl⟩ := rx
    have e' : k = (i != 0) := e
    subst e'
    exact PySem.P.truthy_int ⟨H, I, q⟩
  | str y =>
    obtain ⟨t, rfl⟩ := rx
    obtain ⟨hy, e'⟩ : y.length ≤ sizeLine ∧ k = ((y.length : Int) != 0) := e
    subst e'
    exact PySem.P.truthy_str (by omega) ⟨H, I.tok _, q⟩
  | byt y =>
    obtain ⟨t, rfl⟩ := rx
    obtain ⟨hy, e'⟩ : y.size ≤ sizeLine ∧ k = ((y.size : Int) != 0) := e
    subst e'
    exact PySem.W.truthy_bytes (by omega) ⟨H, I.tok _, q⟩
  | ref p =>
    cases rx
    have e' : (∃ xs, SqL X.K H p xs ∧ k = !xs.isEmpty) ∨ (∃ xs, SqT X.K H p xs ∧ k = !xs.isEmpty) ∨ ∃ kvs, H p = some (.dK kvs) ∧ k = !kvs.isEmpty := e
    rcases e' with ⟨xs, hx, e'⟩ | ⟨xs, hx, e'⟩ | ⟨kvs, hx, e'⟩
    · subst e'
      obtain ⟨its, r, pl, hz⟩ := I.list hx
      have hlen := r.length
      exact wpAny_truthy_list pl.isList (by simp only [List.size_toArray]; omega) ⟨H, I.tok _, by rw [isEmpty_of r]; exact q⟩
    · subst e'
      obtain ⟨its, r, pl, hz⟩ := I.tuple hx
      have hlen := r.length
      exact truthy_tuple pl (by simp only [List.size_toArray]; omega) ⟨H, I.tok _, by rw [isEmpty_of r]; exact q⟩
    · subst e'
      obtain ⟨hz, hS, vs, r, m⟩ : kvs.length ≤ sizeLine ∧ (p == sysModules) = false ∧ ∃ vs, KV kvs vs ∧ s.heap.DictOf (mixKind X.prog X.w) p vs := I.hok p _ hx
      have hlen : kvs.length = vs.length := Paired.length r
      exact wpAny_truthy_dict hS m (by omega) ⟨H, I.tok _, by rw [isEmpty_kv r]; exact q⟩
  | _ => exact (show False from e).elim
/-- any expression whose test is its value's truth (a name, a call, a subscript, a field ..: he by fun _ => rfl) -/
theorem pt_truth (ha : PE X a ta) (he : ∀ whole, isTrue a X.env whole = (do let v ← whole; standAt a.pos; holding [v] (truthy v))) :
    PT X a (fun σ H Q => ta σ H fun x H' => ∃ k, TruV X.K x H' k ∧ Q k H') := by
  intro pins s σ H Q I h
  exact isTrue_plain (thn (ha pins s σ H _ I h) fun v s1 ⟨x, H1, I1, r1, q1⟩ => tru_ok pins s1 σ H1 x v Q I1 r1 q1) (he _)

/-! ### strs and bytes -/


/-! ### scalar builtins, by CallR -/
theorem vals1 {x : V} {us : List Value} (r : Vals [x] us) : ∃ u, us = [u] ∧ RelV x u := by
  cases r with
  | cons r1 r2 => cases r2; exact ⟨_, rfl, r1⟩
theorem vals2 {x y : V} {us : List Value} (r : Vals [x, y] us) : ∃ u w', us = [u, w'] ∧ RelV x u ∧ RelV y w' := by
  cases r with
  | cons r1 r2 =>
    cases r2 with
    | cons r3 r4 => cases r4; exact ⟨_, _, rfl, r1, r3⟩
theorem call_max2 (hc : X.calm = true) : CallR X (.builtin "max") (fun xs H Q => ∃ i j, xs = [.int i, .int j] ∧ Q (.int (if j > i then j else i)) H) := by
  intro pins s σ H xs us Q I r h
  obtain ⟨i, j, rfl, q⟩ := h
  obtain ⟨u, w', rfl, ⟨t, rfl⟩, ⟨t', rfl⟩⟩ := vals2 r
  refine max_two_ints (I.ok.hd hc) fun h' tk k => ⟨_, H, I.kept k, ?_, q⟩
  by_cases hj : j > i
  · rw [if_pos hj, if_pos hj]; exact ⟨_, rfl⟩
  · rw [if_neg hj, if_neg hj]; exact ⟨_, rfl⟩
theorem call_min2 (hc : X.calm = true) : CallR X (.builtin "min") (fun xs H Q => ∃ i j, xs = [.int i, .int j] ∧ Q (.int (if j < i then j else i)) H) := by
  intro pins s σ H xs us Q I r h
  obtain ⟨i, j, rfl, q⟩ := h
  obtain ⟨u, w', rfl, ⟨t, rfl⟩, ⟨t', rfl⟩⟩ := vals2 r
  refine min_two_ints (I.ok.hd hc) fun h' tk k => ⟨_, H, I.kept k, ?_, q⟩
  by_cases hj : j < i
  · rw [if_pos hj, if_pos hj]; exact ⟨_, rfl⟩
  · rw [if_neg hj, if_neg hj]; exact ⟨_, rfl⟩
theorem call_int1 : CallR X (.type "int") (fun xs H Q => (∃ i, xs = [.int i] ∧ Q (.int i) H) ∨ ∃ k, xs = [.bl k] ∧ Q (.int (if k then 1 else 0)) H) := by
  intro pins s σ H xs us Q I r h
  rcases h with ⟨i, rfl, q⟩ | ⟨k, rfl, q⟩
  · obtain ⟨u, rfl, t, rfl⟩ := vals1 r
    exact call_int_int ⟨.int i, H, I, ⟨_, rfl⟩, q⟩
  · obtain ⟨u, rfl, r1⟩ := vals1 r
    cases r1
    exact call_int_bool ⟨.int (if k then 1 else 0), H, I.tok _, ⟨_, rfl⟩, q⟩
end
end L2

namespace L2
open PySem PySem.Spec PyProof.Rows

/-! ### an instance, its attributes a map -/
structure ObjM (h : Heap) (x dx C : Addr) (mA : Str → Option Value) : Prop where
  obj : h.get? x = some (PySem.W.instObj C dx)
  ns : h.Ns1 dx mA
  ne : dx ≠ x

theorem lookIn_ns {h : Heap} {dx : Addr} {mA : Str → Option Value} (n : h.Ns1 dx mA) : ∃ od, h.get? dx = some od ∧ ∀ name, PySem.W.lookIn name od = some (mA name) := by
  obtain ⟨o, es, ep, ho, hd, hk, _, hm⟩ := n
  refine ⟨o, ho, fun name => ?_⟩
  have e := hm name
  unfold nsFind findBy at e
  rw [← Array.find?_toList] at e
  unfold PySem.W.lookIn
  rw [hd]
  dsimp only
  split
  · rename_i y q
    rw [q] at e
    exact congrArg some e
  · rename_i q
    rw [q] at e
    have a : es.toList.any (·.refKey) = false := by
      rw [List.any_eq_false]
      intro y hy
      obtain ⟨z, t, hkey⟩ := hk y (Array.mem_toList_iff.mp hy)
      simp [DictEntry.refKey, hkey]
    have a' : ¬ es.toList.any (·.refKey) = true := by rw [a]; exact Bool.false_ne_true
    rw [if_neg a']
    exact congrArg some e

theorem ObjM.look {h : Heap} {x dx C : Addr} {mA : Str → Option Value} (I : ObjM h x dx C mA) : ∃ od, PySem.W.InstAt h x (PySem.W.instObj C dx) C (some od) ∧ ∀ name, PySem.W.lookIn name od = some (mA name) :=
  let ⟨od, ho, hl⟩ := lookIn_ns I.ns
  ⟨od, ⟨I.obj, rfl, rfl, ho⟩, hl⟩

section
variable {prog : Program} {w : World} {A : Around} {E : Value → Shared → Prop} {s : Shared} {K : PySem.W.Frag} {x dx C f : Addr} {mA : Str → Option Value} {name : Str} {v : Value}





end

/-! ### the attributes as a list of pairs -/


section
variable {P : Program} {w : World} {H H' : Hp} {h h' : Heap} {a C dx : Addr} {fs fs' : List (Str × V)}
theorem ins_get (hok : HOk P w H h) (e : H a = some (.ins C dx fs)) : ∃ mA, ObjM h a dx C mA ∧ (∀ f, RelO (fs.lookup f) (mA f)) ∧ PySem.Within mA (fs.map (·.1)) ∧ fs.length ≤ 1000 ∧ H dx = some (.own a) := by
  obtain ⟨d, z, ne, ob, mA, n, r, q⟩ := (show ObjOk P w H h a (.ins C dx fs) from hok a _ e)
  exact ⟨mA, ⟨ob, n, ne⟩, r, q, z, d⟩
end

/-! ### what of the text a class must have -/
structure Cls (K : PySem.W.Frag) (C : Addr) : Prop where
  pg : PySem.W.plainGet K C Str.empty = true
  hd : PySem.W.hasDictIn K C = true
  po : PySem.W.plainOver K C = true
  sa : PySem.W.findIn K (.ref C) "__setattr__" = some (some (.builtin "object.__setattr__"))
theorem Cls.get {K : PySem.W.Frag} {C : Addr} (c : Cls K C) (f : Str) : PySem.W.plainGet K C f = true := c.pg
/-- a constant of the class -/
structure Con (K : PySem.W.Frag) (C : Addr) (f : Str) (v : V) (u : Value) : Prop where
  at_ : PySem.W.findIn K (.ref C) f = some (some u)
  rel : RelV v u
  get : PySem.W.specialIn K u "__get__" = some none
  cp : PySem.W.copiedNames.contains f = false
/-- a method: a plain def of the class or of one above it -/
structure Meth (K : PySem.W.Frag) (C : Addr) (m : Str) (f : Addr) : Prop where
  at_ : PySem.W.findIn K (.ref C) m = some (some (.ref f))
  fn : PySem.W.isFn K (.ref f) = true
  kp : PySem.W.keepIn K (.ref f) = true

section
variable {X : Cx} {pins : List (Addr × Obj)} {σ : St} {H : Hp} {s : Shared} {a C dx : Addr} {fs : List (Str × V)} {f : Str} {v : V} {A : Around} {E : Value → Shared → Prop}






end

/-! ### readings and rules -/

section
variable {X : Cx} {o e value : Expr} {f : Str} {pos pos' tpos : Pos} {ta tv : TE}

end

/-! ### isinstance -/
section
variable {X : Cx} {pins : List (Addr × Obj)} {σ : St} {H : Hp} {s : Shared} {A : Around} {E : Value → Shared → Prop} {Q : Value → Shared → Prop} {c : Value} {b : Bool}
/-- the type of a value, as the fragment's deciders take it; for an instance its class -/
inductive TyOf (K : PySem.W.Frag) (H : Hp) : V → Value → Prop where
  | non : TyOf K H .non (.type "NoneType")
  | bl (x : Bool) : TyOf K H (.bl x) (.type "bool")
  | int (i : Int) : TyOf K H (.int i) (.type "int")
  | str (x : Str) : TyOf K H (.str x) (.type "str")
  | flt (x : UInt64) : TyOf K H (.flt x) (.type "float")
  | lst {a : Addr} {xs : List V} (e : H a = some (.lst xs)) : TyOf K H (.ref a) (.type "list")
  | frz {a : Addr} {o : Obj} {xs : List V} (e : H a = some (.frz o (.lst xs))) : TyOf K H (.ref a) (.type "list")
  | tup {a : Addr} {xs : List V} (e : H a = some (.tup xs)) : TyOf K H (.ref a) (.type "tuple")
  | dK {a : Addr} {kvs : List (Key × V)} (e : H a = some (.dK kvs)) : TyOf K H (.ref a) (.type "dict")
  | dT {a : Addr} {kvs : List (List Key × V)} (e : H a = some (.dT kvs)) : TyOf K H (.ref a) (.type "dict")
  | ins {a C dx : Addr} {fs : List (Str × V)} (e : H a = some (.ins C dx fs)) (cl : Cls K C) (ha : PySem.W.findIn K (.ref C) "__class__" = some (some (.builtin "object.__class__")))
      (hn : PySem.W.specialIn K (.builtin "object.__class__") "__get__" = some (some (.builtin "getset_descriptor.__get__"))) (htk : PySem.W.takesIn K (.builtin "object.__class__") = some true)
      (hm : PySem.W.mroIn K C (.type "object") = some true) : TyOf K H (.ref a) (.ref C)
/-- isinstance(x, c) for one class c, a built-in or an own one: kitOne's answer -/
theorem isinst_ok {x : V} {u t : Value} (I : Inv X pins σ H s) (rx : RelV x u) (ty : TyOf X.K H x t) (e : PySem.W.kitOne X.K t c = some b) (h : ∀ tk, Q (.bool b) { s with toks := tk }) :
    wpAny (model X.prog X.w) A (call (.builtin "isinstance") [u, c]) Q E s := by
  cases ty with
  | non => cases (show u = Value.none from rx); exact PySem.W.kia_one PySem.W.kitx_none I.kIn True.intro e (fun z => nomatch z) h
  | bl y => cases (show u = Value.bool y from rx); exact PySem.W.kia_one PySem.W.kitx_bool I.kIn True.intro e (fun z => nomatch z) h
  | int i => obtain ⟨t, q⟩ := (show ∃ t, u = Value.int i t from rx); cases q; exact PySem.W.kia_one PySem.W.kitx_int I.kIn True.intro e (fun z => nomatch z) h
  | str y => obtain ⟨t, q⟩ := (show ∃ t, u = Value.str y t from rx); cases q; exact PySem.W.kia_one PySem.W.kitx_str I.kIn True.intro e (fun z => nomatch z) h
  | flt y => obtain ⟨t, q⟩ := (show ∃ t, u = Value.float y t from rx); cases q; exact PySem.W.kia_one PySem.W.kitx_float I.kIn True.intro e (fun z => nomatch z) h
  | @lst a xs ea =>
    cases (show u = Value.ref a from rx)
    obtain ⟨_, _, n, _, h1⟩ := (show ObjOk X.prog X.w H s.heap a (.lst xs) from I.hok a _ ea)
    exact PySem.W.kia_one PySem.W.kitx_list I.kIn ⟨_, h1, rfl⟩ e (fun z => nomatch z) h
  | @frz a ob xs ea =>
    cases (show u = Value.ref a from rx)
    obtain ⟨_, _, _, n, _, h1⟩ := (show ObjOk X.prog X.w H s.heap a (.frz ob (.lst xs)) from I.hok a _ ea)
    exact PySem.W.kia_one PySem.W.kitx_list I.kIn ⟨_, h1, rfl⟩ e (fun z => nomatch z) h
  | @tup a xs ea =>
    cases (show u = Value.ref a from rx)
    obtain ⟨_, _, _, p⟩ := (show ObjOk X.prog X.w H s.heap a (.tup xs) from I.hok a _ ea)
    obtain ⟨o, h1, h2, _⟩ := p
    exact PySem.W.kia_one PySem.W.kitx_tuple I.kIn ⟨o, h1, h2⟩ e (fun z => nomatch z) h
  | @dK a kvs ea =>
    cases (show u = Value.ref a from rx)
    obtain ⟨_, _, vs, _, p⟩ := (show ObjOk X.prog X.w H s.heap a (.dK kvs) from I.hok a _ ea)
    obtain ⟨o, es, ep, h1, h2, _⟩ := p
    exact PySem.W.kia_one PySem.W.kitx_dict I.kIn ⟨o, h1, h2.1⟩ e (fun z => nomatch z) h
  | @dT a kvs ea =>
    cases (show u = Value.ref a from rx)
    obtain ⟨_, _, xs, _, o, es, ep, h1, h2, _⟩ := (show ObjOk X.prog X.w H s.heap a (.dT kvs) from I.hok a _ ea)
    exact PySem.W.kia_one PySem.W.kitx_dict I.kIn ⟨o, h1, h2.1⟩ e (fun z => nomatch z) h
  | @ins a C dx fs ea cl ha hn htk hm =>
    cases (show u = Value.ref a from rx)
    obtain ⟨mA, O, _⟩ := ins_get I.hok ea
    obtain ⟨od, J, _⟩ := O.look
    exact PySem.W.kia_one (PySem.W.kitx_own (cl.get _) cl.hd ha hn htk hm) I.kIn J e (fun z => nomatch z) h
end
end L2

namespace L2
open PySem PySem.Spec PyProof.Rows

/-! ### room -/
structure Room (k : Nat) (A : Around) : Prop where
  hd : A.handled = none
  dp : A.depth + 3 * k + 5 < recursionLimit
  un : A.units + 16 * k + 200 < cLine
theorem Room.mono {j k : Nat} {A : Around} (r : Room k A) (h : j ≤ k) : Room j A := ⟨r.hd, by have := r.dp; omega, by have := r.un; omega⟩
theorem Room.deeper {k : Nat} {A : Around} (r : Room (k + 1) A) (env : Env) : Room k (A.deeper env) :=
  ⟨r.hd, by have := r.dp; show A.depth + 1 + 3 * k + 5 < _; omega, by have := r.un; show A.units + 3 + 16 * k + 200 < _; omega⟩
theorem Room.depth {k : Nat} {A : Around} (r : Room k A) : A.depth < recursionLimit := by have := r.dp; omega

/-! ### argument lists and displays -/
def tNil : TA := fun _ H Q => Q [] H
def tCons (ta : TE) (tr : TA) : TA := fun σ H Q => ta σ H fun x H1 => tr σ H1 fun xs H2 => Q (x :: xs) H2
section
variable {X : Cx} {e : Expr} {es : List Expr} {te : TE} {t : TA} {pos : Pos}
theorem pa_nil : PA X [] tNil := fun _ _ _ _ H Q I h => Calls.spliced_nil ⟨[], H, I, .nil, h⟩
theorem pa_cons (ha : PE X e te) (hr : PA X es t) (hs : starEach (e :: es) X.env = (false, eval e X.env) :: starEach es X.env := by rfl) : PA X (e :: es) (tCons te t) := by
  intro pos pins s σ H Q I h
  rw [hs]
  show wpAny _ _ (spliced ((false, eval e X.env) :: backTo pos (starEach es X.env))) _ _ s
  refine Calls.spliced_cons (thn (ha pins s σ H _ I h) fun u s1 ⟨x, H1, I1, r1, q1⟩ => ?_)
  exact thn (hr pos pins s1 σ H1 _ I1 q1) fun us s2 ⟨xs, H2, I2, r2, q2⟩ => ⟨x :: xs, H2, I2, .cons r1 r2, q2⟩

/-- a tuple, a list of written items -/
def tTup (t : TA) : TE := fun σ H Q => t σ H fun xs H1 => xs.length ≤ sizeLine ∧ ∀ p, H1 p = none → Q (.ref p) (upd H1 p (.tup xs))
def tLst (t : TA) : TE := fun σ H Q => t σ H fun xs H1 => xs.length ≤ sizeLine ∧ ∀ p, H1 p = none → Q (.ref p) (upd H1 p (.lst xs))
theorem pe_tup {x1} (h : PA X es t) : PE X (.Tuple es x1 pos) (tTup t) := by
  intro pins s σ H Q I hq
  refine wpAny_Tuple_spliced (thn (h pos pins s σ H _ I hq) fun us s1 ⟨xs, H1, I1, r, z, q⟩ => ⟨by rw [← r.length]; exact z, ?_⟩)
  have hf : H1 s1.heap.objs.size = none := I1.hok.fresh (Nat.le_refl _)
  refine ⟨.ref s1.heap.objs.size, upd H1 s1.heap.objs.size (.tup xs), I1.laid (t' := s1.toks) (fun b u e => Heap.get?_push_of_some _ e) (Nat.le_refl _) ?_, rfl, q _ hf⟩
  exact ⟨z, us, r, ⟨_, Heap.get?_push_size _ rfl, rfl, _, rfl⟩⟩
theorem pe_lst (h : PA X es t) : PE X (.List es pos) (tLst t) := by
  intro pins s σ H Q I hq
  refine wpAny_List_spliced (thn (h pos pins s σ H _ I hq) fun us s1 ⟨xs, H1, I1, r, z, q⟩ => ⟨by rw [← r.length]; exact z, ?_⟩)
  have hf : H1 s1.heap.objs.size = none := I1.hok.fresh (Nat.le_refl _)
  refine ⟨.ref s1.heap.objs.size, upd H1 s1.heap.objs.size (.lst xs), I1.laid (t' := s1.toks) (fun b u e => Heap.get?_push_of_some _ e) (Nat.le_refl _) ?_, rfl, q _ hf⟩
  exact ⟨z, us, 0, r, Heap.get?_push_size _ rfl⟩
end

/-! ### what a def promises -/
/-- a def's promise: the bound arguments in the parameters' order, the heap, the wanted end, the wanted exception -/
abbrev Sp := List V → Hp → VK → XK → Prop
/-- how an exception lies behind a call (file 08 gives it): the callers' frames, abstract heap and state ahead of the call, the wish, the exception, the state -/
abbrev CXT := List Env → Hp → Shared → XK → Value → Shared → Prop

/-- the state at a call -/
structure Env0 (P : Program) (w : World) (K : PySem.W.Frag) (mg : Str → Option Value) (base : Heap) (A : Around) (outer : List Env) (s : Shared) (H : Hp) : Prop where
  frames : A.frames = some outer
  mod : Mod K mg base
  bs : ∀ b o, base.get? b = some o → s.heap.get? b = some o ∧ H b = none
  bsz : base.objs.size ≤ s.heap.objs.size
  funs : s.heap.FunFrames base outer
  frf : ∀ b ∈ frs outer, H b = none
  hok : HOk P w H s.heap
  bare : AllBare s.gens
/-- a call's end -/
def CE (outer : List Env) (P : Program) (w : World) (H : Hp) (s : Shared) (Q : VK) (u : Value) (s' : Shared) : Prop :=
  ∃ v H', s'.os = s.os ∧ AllBare s'.gens ∧ Un (frs outer) [] H H' s.heap s'.heap ∧ HOk P w H' s'.heap ∧ RelV v u ∧ Q v H'
def CR (CX : CXT) (outer : List Env) (P : Program) (w : World) (H : Hp) (s : Shared) (Q : VK) (E : XK) (r : Result) (s' : Shared) : Prop :=
  match r with
  | .ok (.ret u) => CE outer P w H s Q u s'
  | .ok _ => False
  | .error e => CX outer H s E e s'
structure FnOk (P : Program) (w : World) (K : PySem.W.Frag) (mg : Str → Option Value) (base : Heap) (CX : CXT) (k : Nat) (f : Addr) (fd : FuncData) (ps : List Str) (sp : Sp) : Prop where
  len : ∀ vs H Q E, sp vs H Q E → vs.length = ps.length
  run : ∀ (A : Around) (outer : List Env) (s : Shared) (H : Hp) (args : Args) (us : List Value) (vs : List V) (Q : VK) (E : XK), Room k A → Env0 P w K mg base A outer s H → BindsTo s fd args (ps.zip us) → Vals vs us → sp vs H Q E →
    codeAny (model P w) A (.call (.ref f) args) (CR CX outer P w H s Q E) s
theorem FnOk.mono {P : Program} {w : World} {K : PySem.W.Frag} {mg : Str → Option Value} {base : Heap} {CX : CXT} {j k : Nat} {f : Addr} {fd : FuncData} {ps : List Str} {sp : Sp} (F : FnOk P w K mg base CX j f fd ps sp) (h : j ≤ k) :
    FnOk P w K mg base CX k f fd ps sp := ⟨F.len, fun A outer s H args us vs Q E hr => F.run A outer s H args us vs Q E (hr.mono h)⟩


section
variable {X : Cx} {pins : List (Addr × Obj)} {σ : St} {H : Hp} {s s' : Shared}
/-- from a body: what a callee wants -/
theorem Inv.env0 (I : Inv X pins σ H s) : Env0 X.prog X.w X.K X.mg X.base X.A X.stack s H :=
  ⟨I.ok.frames, I.ok.mod, I.bs, Nat.le_trans I.ok.bsz I.sz, I.stack, I.stkFree, I.hok, I.bare⟩
/-- behind a call -/
theorem Inv.after {Q : VK} {u : Value} (I : Inv X pins σ H s) (h : CE X.stack X.prog X.w H s Q u s') : EP X pins σ Q u s' := by
  obtain ⟨v, H', os, bare, un, hok, r, q⟩ := h
  obtain ⟨hh, g, d, t, os'⟩ := s'
  obtain rfl : os' = s.os := os
  exact ⟨v, H', I.call (h' := hh) (g' := g) (d' := d) (t' := t) (ch := []) un hok bare (fun b z => absurd z (by simp)), r, q⟩
end

/-! ### calls -/
/-- f(..): the written arguments, then the defaults dvs; E: what is wanted of an exception -/
def tCall (sp : Sp) (dvs : List V) (E : XK) (t : TA) : TE := fun σ H Q => t σ H fun vs H1 => sp (vs ++ dvs) H1 Q E

/-- how the parameters are bound: us the positional arguments, kw the keywords' values by name, ds the defaults that fill up -/
def Binds (K : PySem.W.Frag) (fd : FuncData) (ps : List Str) (ds : List Value) : Prop :=
  ∀ (s : Shared) (us : List Value), K.In s.heap → (us ++ ds).length = ps.length → BindsTo s fd ⟨us, []⟩ (ps.zip (us ++ ds))
/-- every parameter is given -/
theorem Binds.all {K : PySem.W.Frag} {fd : FuncData} {ps : List Str} (h : ∀ us : List Value, us.length = ps.length → bindArgs fd ⟨us, []⟩ = pure (ps.zip us)) : Binds K fd ps [] := fun s us _ hl => by
  rw [List.append_nil] at hl ⊢
  exact .of_eq (h us hl)

/-- an exception of a callee reaches what this body wants of exceptions -/
def Passes (CX : CXT) (X : Cx) (E : XK) : Prop := ∀ (pins : List (Addr × Obj)) (σ : St) (H : Hp) (s : Shared) (e : Value) (s' : Shared), Inv X pins σ H s → CX X.stack H s E e s' → X.xe e s'

section
variable {X : Cx} {CX : CXT} {k : Nat} {f C : Addr} {fd : FuncData} {ps : List Str} {sp : Sp} {dvs : List V} {ds : List Value} {E : XK} {x m : Str} {p pos apos : Pos} {e o : Expr} {es : List Expr} {ta : TE} {t : TA}

/-- the callee runs -/
theorem run_fn {pins : List (Addr × Obj)} {σ : St} {H : Hp} {s : Shared} {Q : VK} {us : List Value} {vs : List V} (F : FnOk X.prog X.w X.K X.mg X.base CX k f fd ps sp) (hr : Room k X.A) (hb : Binds X.K fd ps ds) (hd : Vals dvs ds) (hx : Passes CX X E)
    (I : Inv X pins σ H s) (r : Vals vs us) (h : sp (vs ++ dvs) H Q E) : wpAny (model X.prog X.w) X.A (call (.ref f) us) (EP X pins σ Q) X.xe s := by
  have r2 : Vals (vs ++ dvs) (us ++ ds) := r.append hd
  have hl : (us ++ ds).length = ps.length := by rw [← r2.length]; exact F.len _ _ _ _ h
  refine wpAny_call (codeAny_mono (F.run X.A X.stack s H ⟨us, []⟩ (us ++ ds) (vs ++ dvs) Q E hr I.env0 (hb s us I.kIn hl) r2 h) fun r s' hq => ?_)
  cases r with
  | error e => exact hx pins σ H s e s' I hq
  | ok fl =>
    cases fl with
    | ret u => exact I.after hq
    | next => exact False.elim hq
    | brk => exact False.elim hq
    | cont => exact False.elim hq

theorem pe_call (F : FnOk X.prog X.w X.K X.mg X.base CX k f fd ps sp) (hr : Room k X.A) (hg : Gl X x) (hm : X.mg x = some (.ref f)) (hk : PySem.W.keepIn X.K (.ref f) = true) (hb : Binds X.K fd ps ds) (hd : Vals dvs ds) (hx : Passes CX X E)
    (ha : PA X (e :: es) t) (hdb : (x == ("__debug__" : Str)) = false := by decide) (he : starEach (e :: es) X.env = (false, eval e X.env) :: starEach es X.env := by rfl) (hpl : (backTo pos (starEach es X.env)).any (·.1) = false := by rfl) :
    PE X (.Call (.Name x p) (e :: es) [] pos) (tCall sp dvs E t) := by
  intro pins s σ H Q I h
  refine wpAny_Call_Name_kw (ld_glob I hg hm ?_ hdb)
  refine PySem.W.callWith_K (h₀ := X.base) I.ok.mod.kin hk (thn (ha pos pins s σ H _ I h) fun us s1 ⟨vs, H1, I1, r, q⟩ => ⟨I1.kIn, ?_⟩) he hpl
  exact run_fn F hr hb hd hx I1 r q


/-- what a class must have to be made -/
structure Mk (K : PySem.W.Frag) (C f : Addr) : Prop where
  makes : PySem.W.makesIn K C = true
  init : PySem.W.findIn K (.ref C) "__init__" = some (some (.ref f))
  fn : PySem.W.isFn K (.ref f) = true
  kp : PySem.W.keepIn K (.ref C) = true

end

/-! ### keywords -/
section
variable {X : Cx} {CX : CXT} {k : Nat} {f C : Addr} {fd : FuncData} {ps ks : List Str} {sp : Sp} {E : XK} {x m : Str} {p pos apos kpos : Pos} {e o : Expr} {es : List Expr} {kws : List Keyword} {te ta : TE} {t tk : TA} {nm : Option Str}

/-- how a call with keywords binds: g puts the positional values us and the keywords' values ws (names ks) in the parameters' order, defaults among them -/
structure KBinds (K : PySem.W.Frag) (fd : FuncData) (ps ks : List Str) (g : List Value → List Value → List Value) (gV : List V → List V → List V) : Prop where
  to : ∀ (s : Shared) (us ws : List Value), K.In s.heap → (g us ws).length = ps.length → BindsTo s fd ⟨us, ks.zip ws⟩ (ps.zip (g us ws))
  rel : ∀ {vs : List V} {us : List Value} {zs : List V} {ws : List Value}, Vals vs us → Vals zs ws → Vals (gV vs zs) (g us ws)
variable {g : List Value → List Value → List Value} {gV : List V → List V → List V}
end

/-! ### a def's body keeps its promise -/
/-- names: the parameters first -/
structure FnScope (N P : List Str) (sc : Scope) : Prop where
  kind : sc.kind = .function
  co : sc.isCoroutine = false
  gen : sc.isGenerator = false
  nd : N.Nodup
  pre : N.take P.length = P
  par : ∀ x ∈ P, sc.names.lookup x = some .local ∨ sc.names.lookup x = some .cell
  nofree : ∀ y ∈ sc.names, y.2 ≠ .free

theorem bindL_out {kindOf : Str → Option NameKind} {x : Str} : ∀ {binds : List (Str × Value)} {m : Str → Option Value}, (∀ v, (x, v) ∉ binds) → bindL kindOf binds m x = m x
  | [], _, _ => rfl
  | (n, v) :: r, m, h => by
    unfold bindL
    rw [bindL_out fun w hw => h w (List.mem_cons_of_mem _ hw)]
    split
    · have : x ≠ n := by rintro rfl; exact h v List.mem_cons_self
      simp [this]
    · rfl
theorem bindC_out {kindOf : Str → Option NameKind} {x : Str} : ∀ {binds : List (Str × Value)} {m : Str → Option Value}, (∀ v, (x, v) ∉ binds) → bindC kindOf binds m x = m x
  | [], _, _ => rfl
  | (n, v) :: r, m, h => by
    unfold bindC
    rw [bindC_out fun w hw => h w (List.mem_cons_of_mem _ hw)]
    split
    · rfl
    · have : x ≠ n := by rintro rfl; exact h v List.mem_cons_self
      simp [this]
theorem bindL_get {kindOf : Str → Option NameKind} {x : Str} {v : Value} : ∀ {P : List Str} {vs : List Value} {i : Nat} {m : Str → Option Value}, P.Nodup → P[i]? = some x → vs[i]? = some v → kindOf x = some .local →
    bindL kindOf (P.zip vs) m x = some v
  | [], _, _, _, _, h, _, _ => by simp at h
  | _ :: _, [], _, _, _, _, h, _ => by simp at h
  | p :: P, w :: vs, 0, m, nd, h1, h2, hk => by
    simp at h1 h2; subst h1; subst h2
    show bindL kindOf ((p, w) :: P.zip vs) m p = _
    unfold bindL
    rw [bindL_out fun v hv => (List.nodup_cons.mp nd).1 (List.of_mem_zip hv).1, if_pos hk]
    simp
  | p :: P, w :: vs, i + 1, m, nd, h1, h2, hk => by
    show bindL kindOf ((p, w) :: P.zip vs) m x = _
    unfold bindL
    exact bindL_get (i := i) (List.nodup_cons.mp nd).2 (by simpa using h1) (by simpa using h2) hk
theorem bindC_get {kindOf : Str → Option NameKind} {x : Str} {v : Value} : ∀ {P : List Str} {vs : List Value} {i : Nat} {m : Str → Option Value}, P.Nodup → P[i]? = some x → vs[i]? = some v → kindOf x ≠ some .local →
    bindC kindOf (P.zip vs) m x = some v
  | [], _, _, _, _, h, _, _ => by simp at h
  | _ :: _, [], _, _, _, _, h, _ => by simp at h
  | p :: P, w :: vs, 0, m, nd, h1, h2, hk => by
    simp at h1 h2; subst h1; subst h2
    show bindC kindOf ((p, w) :: P.zip vs) m p = _
    unfold bindC
    rw [bindC_out fun v hv => (List.nodup_cons.mp nd).1 (List.of_mem_zip hv).1, if_neg hk]
    simp
  | p :: P, w :: vs, i + 1, m, nd, h1, h2, hk => by
    show bindC kindOf ((p, w) :: P.zip vs) m x = _
    unfold bindC
    exact bindC_get (i := i) (List.nodup_cons.mp nd).2 (by simpa using h1) (by simpa using h2) hk

/-- the names' values at the entry -/
def start (N : List Str) (vs : List V) : St := vs.map some ++ List.replicate (N.length - vs.length) none

/-- the context of a def's body, at its entry; an exception leaves the frame, then lies as CX says -/
def cxOf (CX : CXT) (P : Program) (w : World) (K : PySem.W.Frag) (mg : Str → Option Value) (base : Heap) (N : List Str) (qual : Str) (scope : Scope) (f : Addr) (cd : Value) (A : Around) (outer : List Env) (s : Shared) (H : Hp) (E : XK) : Cx where
  prog := P
  w := w
  K := K
  mg := mg
  base := base
  A := A.deeper (envOfC qual scope s.heap.objs.size f cd)
  N := N
  s₀ := s
  H₀ := H
  env := envOfC qual scope s.heap.objs.size f cd
  outer := outer
  stack := envOfC qual scope s.heap.objs.size f cd :: outer
  ex := []
  calm := true
  fn := fun _ => true
  pn := []
  xe := fun e s' => wpAny (model P w) (A.deeper (envOfC qual scope s.heap.objs.size f cd)) (leaving (envOfC qual scope s.heap.objs.size f cd) e) (fun _ s'' => CX outer H s E e s'') (fun e' s'' => CX outer H s E e' s'') s'

theorem cell_has {sc : Scope} {n : Nat} {x : Str} (h : sc.names.lookup x = some .cell) : ∃ c, (cellsFrom n sc.names []).lookup x = some c := by
  have q := PySem.W.cellsFrom_some sc.names n [] (.inl h)
  exact Option.isSome_iff_exists.mp q

theorem inv_start {CX : CXT} {P : Program} {w : World} {K : PySem.W.Frag} {mg : Str → Option Value} {base : Heap} {N ps : List Str} {qual : Str} {scope : Scope} {f : Addr} {cd : Value} {A : Around} {outer : List Env} {s s1 : Shared} {H : Hp} {E : XK} {us : List Value} {vs : List V}
    (S : FnScope N ps scope) (hd : A.handled = none) (e0 : Env0 P w K mg base A outer s H) (hl : vs.length = ps.length) (r : Vals vs us)
    (x : InCallC s s.heap.objs.size (bindL (envOfC qual scope s.heap.objs.size f cd).kindOf (ps.zip us) fun _ => none) (cellsFrom (s.heap.objs.size + 1) scope.names []) (bindC (envOfC qual scope s.heap.objs.size f cd).kindOf (ps.zip us) fun _ => none) s1) :
    Inv (cxOf CX P w K mg base N qual scope f cd A outer s H E) [] (start N vs) H s1 := by
  have hpl : ps.length ≤ N.length := by have := congrArg List.length S.pre; rw [List.length_take] at this; omega
  obtain ⟨h1, tk, rfl, hk⟩ := x.done
  have noA : ∀ b : Addr, b ∉ (cxOf CX P w K mg base N qual scope f cd A outer s H E).ex := fun b z => absurd (show b ∈ ([] : List Addr) from z) (by simp)
  refine ⟨⟨e0.mod, S.kind, rfl, rfl, Nat.le_refl _, fun y z c h1 h2 => ?_, fun y hy => ?_, fun y c _ h => ?_, fun _ => hd, Around.frames_deeper e0.frames, .inr ⟨rfl, rfl⟩, fun b z => absurd z (noA b), e0.bs, e0.bsz, fun b _ _ => noA b, fun b z => absurd z (noA b), e0.funs, e0.frf⟩,
    rfl, e0.bare, Un.kept hk, ⟨_, x.toInCall.ns, fun i y v h1 h2 h3 => ?_⟩, fun y c h => ⟨_, x.cell y c h⟩, e0.hok.fresh (Nat.le_refl _), fun y c h => ?_, fun p hp => absurd (show p ∈ ([] : List (Addr × Obj)) from hp) (by simp), e0.hok.kept hk, ?_⟩
  · exact name_of_addr x.apart (PySem.mem_of_lookup h1) (PySem.mem_of_lookup h2)
  · have hy : scope.names.lookup y = some .cell ∨ scope.names.lookup y = some .free := hy
    rcases hy with hy | hy
    · exact cell_has hy
    · exact absurd rfl (S.nofree _ (PySem.mem_of_lookup hy))
  · exact Nat.le_of_lt (x.above y c (PySem.mem_of_lookup h))
  · have hi : i < vs.length := by
      unfold start at h2
      by_cases hi : i < vs.length
      · exact hi
      · rw [List.getElem?_append_right (by simpa using hi)] at h2
        rw [List.getElem?_replicate] at h2
        split at h2 <;> cases h2
    have ha : vs[i]? = some v := by
      unfold start at h2
      rw [List.getElem?_append_left (by simpa using hi), List.getElem?_map] at h2
      cases e : vs[i]? with
      | none => rw [e] at h2; cases h2
      | some a => rw [e] at h2; cases h2; rfl
    obtain ⟨u, hu, rv⟩ := r.get ha
    have hp : ps[i]? = some y := by
      rw [← S.pre, List.getElem?_take_of_lt (by omega)]; exact h1
    have ndP : ps.Nodup := by rw [← S.pre]; exact S.nd.sublist (List.take_sublist _ _)
    refine ⟨u, rv, ?_⟩
    rcases S.par y (List.mem_of_getElem? hp) with k | k
    · exact .inl ⟨k, bindL_get ndP hp hu k⟩
    · obtain ⟨c, e⟩ := cell_has (n := s.heap.objs.size + 1) k
      refine .inr ⟨.inl k, c, e, ?_⟩
      have q := x.cell y c e
      rw [bindC_get ndP hp hu (by show scope.names.lookup y ≠ _; rw [k]; decide)] at q
      exact q
  · exact e0.hok.fresh (Nat.le_of_lt (x.above y c (PySem.mem_of_lookup h)))
  · unfold start
    show _ = N.length
    rw [List.length_append, List.length_map, List.length_replicate]
    omega

/-- THE RULE: a def (or a method) of the text, by its body. The body's reading t is chosen for each entry; it is run at the parameters' values -/
theorem fn_of {CX : CXT} {P : Program} {w : World} {K : PySem.W.Frag} {mg : Str → Option Value} {base : Heap} {k : Nat} {f : Addr} {name qual : Str} {params : Arguments} {body : List Stmt} {scope : Scope} {dV kV doc pm cdv ct oc : Value} {an od : Option Addr}
    {osl : Array (Option Value)} {N ps : List Str} {sp : Sp} (lk : K.lookup f = some ⟨oc, od, .func (PySem.W.fnOf name qual params body scope dV kV doc pm an cdv ct), osl⟩) (hcd : PySem.W.codeIn K cdv qual = true) (S : FnScope N ps scope)
    (len : ∀ vs H Q E, sp vs H Q E → vs.length = ps.length)
    (hbody : ∀ (A : Around) (outer : List Env) (s : Shared) (H : Hp) (vs : List V) (Q : VK) (E : XK), Room k (A.deeper (envOfC qual scope s.heap.objs.size f cdv)) → sp vs H Q E →
      ∃ t, PSs (cxOf CX P w K mg base N qual scope f cdv A outer s H E) body t ∧ t { nx := fun _ H' => Q .non H', rt := Q } (start N vs) H) :
    FnOk P w K mg base CX (k + 1) f (PySem.W.fnOf name qual params body scope dV kV doc pm an cdv ct) ps sp := by
  refine ⟨len, fun A outer s H args us vs Q E hr e0 hb r hsp => ?_⟩
  have hl := len _ _ _ _ hsp
  have KX : K.In s.heap := e0.mod.kin.keeps fun b o e => (e0.bs b o e).1
  have lim : s.heap.NoLimit := e0.mod.nolimit.keeps fun b o e => (e0.bs b o e).1
  have hkind : ∀ y ∈ ps.zip us, scope.names.lookup y.1 = some .local ∨ (scope.names.lookup y.1 = some .cell ∧ ((cellsFrom (s.heap.objs.size + 1) scope.names []).lookup y.1).isSome = true) := fun ⟨n, v⟩ hy => by
    rcases S.par n (List.of_mem_zip hy).1 with q | q
    · exact .inl q
    · exact .inr ⟨q, PySem.W.cellsFrom_some _ _ _ (.inl q)⟩
  refine codeAny_call_function hr.depth (KX _ _ lk) rfl S.co S.gen rfl (PySem.W.codeRec_of KX hcd) (hb _ _ _ _ ?_)
  refine wpAny_newFunctionEnv_cells S.kind hkind fun env he s1 x => ?_
  subst he
  refine ⟨lim.keeps x.toInCall.keep, codeAny_func ?_⟩
  obtain ⟨t, ht, hq⟩ := hbody A outer s H vs Q E (hr.deeper _) hsp
  have I : Inv (cxOf CX P w K mg base N qual scope f cdv A outer s H E) [] (start N vs) H s1 := inv_start S hr.hd e0 hl r x
  refine wpAny_mono (ht [] s1 (start N vs) H _ I hq) (fun fl s' hs => ?_) fun e s' hs => hs
  have fin : ∀ {σ' : St} {H' : Hp} {v : V} {u : Value}, Inv (cxOf CX P w K mg base N qual scope f cdv A outer s H E) [] σ' H' s' → RelV v u → Q v H' → CE outer P w H s Q u s' :=
    fun {σ' H' v u} J rv q => ⟨v, H', J.os, J.bare, J.base, J.hok, rv, q⟩
  cases fl with
  | ret u =>
    obtain ⟨v, σ', H', J, rv, q⟩ := hs
    exact fin J rv q
  | next =>
    obtain ⟨σ', H', J, q⟩ := hs
    exact fin (v := V.non) (u := Value.none) J rfl q
  | brk =>
    obtain ⟨_, _, _, q⟩ := hs
    exact False.elim q
  | cont =>
    obtain ⟨_, _, _, q⟩ := hs
    exact False.elim q
end L2

namespace L2
open PySem PySem.Spec PyProof.Rows
section
variable {X : Cx} {x : Str} {p pos : Pos} {e : Expr} {es : List Expr} {t : TA} {id T : String} {r : List V → Hp → VK → Prop}

def tCB (r : List V → Hp → VK → Prop) (t : TA) : TE := fun σ H Q => t σ H fun vs H1 => r vs H1 Q
/-- f(e, ..), f a built-in function -/
theorem pe_callB (hc : CallR X (.builtin id) r) (hg : Gl X x) (hm : X.mg x = none) (hv : bootBuiltins x = some (.builtin id)) (ha : PA X (e :: es) t) (hn : x ≠ "__name__" := by decide) (hdb : (x == ("__debug__" : Str)) = false := by decide)
    (he : starEach (e :: es) X.env = (false, eval e X.env) :: starEach es X.env := by rfl) (hpl : (backTo pos (starEach es X.env)).any (·.1) = false := by rfl) : PE X (.Call (.Name x p) (e :: es) [] pos) (tCB r t) := by
  intro pins s σ H Q I h
  refine wpAny_Call_Name_kw (ld_blt I hg hm hv ?_ hn hdb)
  exact PyProof.Rows.callWith_builtin1 (thn (ha pos pins s σ H _ I h) fun us s1 ⟨vs, H1, I1, r1, q1⟩ => hc pins s1 σ H1 vs us Q I1 r1 q1) he hpl
/-- T(e, ..), T a built-in type -/
theorem pe_callTy (hc : CallR X (.type T) r) (hg : Gl X x) (hm : X.mg x = none) (hv : bootBuiltins x = some (.type T)) (ha : PA X (e :: es) t) (hn : x ≠ "__name__" := by decide) (hdb : (x == ("__debug__" : Str)) = false := by decide)
    (he : starEach (e :: es) X.env = (false, eval e X.env) :: starEach es X.env := by rfl) (hpl : (backTo pos (starEach es X.env)).any (·.1) = false := by rfl) : PE X (.Call (.Name x p) (e :: es) [] pos) (tCB r t) := by
  intro pins s σ H Q I h
  refine wpAny_Call_Name_kw (ld_blt I hg hm hv ?_ hn hdb)
  exact PyProof.Rows.callWith_type1 (thn (ha pos pins s σ H _ I h) fun us s1 ⟨vs, H1, I1, r1, q1⟩ => hc pins s1 σ H1 vs us Q I1 r1 q1) he hpl
end
end L2

namespace HT
open PySem PyProof.Rows



section
open PySem.SeqAt
open PySem.AutoSeq1 (wpAny_loadPart')
open PySem.MeetsSeq PySem.MeetsSeq2 PySem.MeetsSeq3

end

section
variable {prog : Program} {w : World} {A : Around} {E : Value → Shared → Prop} {s : Shared}



/-! ### t[a:b], not the whole -/
/-- a slice's bound as a place among n (d where it is left out) -/
def sIx (n d : Nat) : Option Int → Nat
  | none => d
  | some v => if v < 0 then (v + (n : Int)).toNat else min v.toNat n
theorem sIx_none (n d : Nat) : sIx n d none = d := rfl
theorem sIx_nat (n d k : Nat) : sIx n d (some (k : Int)) = min k n := by
  show (if (k : Int) < 0 then ((k : Int) + (n : Int)).toNat else min (k : Int).toNat n) = min k n
  rw [if_neg (by omega), Int.toNat_natCast]

end
end HT

namespace L2
open PySem PySem.Spec PyProof.Rows

/-! ### the parts of a slice -/
abbrev TO := St → Hp → (Option Int → Hp → Prop) → Prop
/-- a slice's part (left out, or an int) -/
def PO (X : Cx) (e : Option Expr) (t : TO) : Prop :=
  ∀ (pins : List (Addr × Obj)) (s : Shared) (σ : St) (H : Hp) (Q : Option Int → Hp → Prop), Inv X pins σ H s → t σ H Q →
    wpAny (model X.prog X.w) X.A (evalPart e X.env) (fun u s' => ∃ o H', Inv X pins σ H' s' ∧ IsPart u o ∧ Q o H') X.xe s
def tNoPart : TO := fun _ H Q => Q none H
def tPart (t : TE) : TO := fun σ H Q => t σ H fun x H1 => ∃ i, x = .int i ∧ Q (some i) H1

theorem intsAre_of {ns : List Int} : ∀ {us : List Value}, Vals (ns.map V.int) us → IntsAre us ns := by
  induction ns with
  | nil => intro us r; rw [List.map_nil] at r; cases r; exact .nil
  | cons n ns ih =>
    intro us r
    rw [List.map_cons] at r
    cases r with
    | cons r1 r2 =>
      obtain ⟨t, e⟩ := r1
      subst e
      exact .cons n t (ih r2)

section
variable {X : Cx} {e : Expr} {te : TE} {lo hi : Option Expr} {tl th : TO} {pos p2 : Pos}

theorem po_none : PO X none tNoPart := by
  intro pins s σ H Q I h
  rw [evalPart_none]
  exact wpAny_pure ⟨none, H, I, .none, h⟩
theorem po_some (h : PE X e te) : PO X (some e) (tPart te) := by
  intro pins s σ H Q I hw
  rw [evalPart_some]
  refine thn (h pins s σ H _ I hw) fun u s1 ⟨x, H1, I1, r1, q1⟩ => ?_
  obtain ⟨i, rfl, q⟩ := q1
  obtain ⟨t, rfl⟩ := r1
  exact ⟨some i, H1, I1, .int i t, q⟩

/-- what a slice of a value is, by values: the slice object stands at sl -/
def SlR (X : Cx) (r : V → Option Int → Option Int → Hp → VK → Prop) : Prop :=
  ∀ (pins : List (Addr × Obj)) (s : Shared) (σ : St) (H : Hp) (x : V) (v vl vu : Value) (lo hi : Option Int) (sl : Addr) (Q : VK), Inv X pins σ H s → RelV x v → s.heap.IsSliceOf sl vl vu .none → IsPart vl lo → IsPart vu hi → r x lo hi H Q →
    ∃ T id, typeLookup (.type T) "__getitem__" = pure (some (.builtin id)) ∧ s.TypeIs v T ∧ wpAny (model X.prog X.w) X.A (getItem v (.ref sl)) (EP X pins σ Q) X.xe s
def tSl (r : V → Option Int → Option Int → Hp → VK → Prop) (te : TE) (tl th : TO) : TE := fun σ H Q => te σ H fun x H1 => tl σ H1 fun l H2 => th σ H2 fun u H3 => r x l u H3 Q
/-- a[lo:hi], any a -/
theorem pe_slice {r : V → Option Int → Option Int → Hp → VK → Prop} (hr : SlR X r) (he : PE X e te) (hl : PO X lo tl) (hu : PO X hi th) : PE X (.Subscript e (.Slice lo hi none p2) pos) (tSl r te tl th) := by
  intro pins s σ H Q I h
  refine Subscript_ (thn (he pins s σ H _ I h) fun v s1 ⟨x, H1, I1, r1, q1⟩ => ?_)
  refine wpAny_Slice (thn (hl pins s1 σ H1 _ I1 q1) fun vl s2 ⟨l, H2, I2, pl, q2⟩ => thn (hu pins s2 σ H2 _ I2 q2) fun vu s3 ⟨u, H3, I3, pu, q3⟩ => ?_)
  rw [evalPart_none]
  refine wpAny_pure ?_
  have I4 : Inv X pins σ H3 { s3 with heap := s3.heap.push { cls := .type "slice", data := .fields #[vl, vu, .none] } } := I3.kept (t' := s3.toks) fun b ob q => Heap.get?_push_of_some _ q
  obtain ⟨T, id, hT, ht, hg⟩ := hr pins { s3 with heap := s3.heap.push { cls := .type "slice", data := .fields #[vl, vu, .none] } } σ H3 x v vl vu l u s3.heap.objs.size Q I4 r1 (Heap.IsSliceOf.new ..) pl pu q3
  show wpAny (model X.prog X.w) X.A (subscriptTail e (.Slice lo hi none p2) v (.ref s3.heap.objs.size)) (EP X pins σ Q) X.xe { s3 with heap := s3.heap.push { cls := .type "slice", data := .fields #[vl, vu, .none] } }
  exact tail_any (ops := [.ref s3.heap.objs.size, v]) ht hT hg (by with_unfolding_all rfl)

/-- the items of xs[lo:hi] -/
def cutV (xs : List V) (lo hi : Option Int) : List V := (xs.drop (HT.sIx xs.length 0 lo)).take (HT.sIx xs.length xs.length hi - HT.sIx xs.length 0 lo)
theorem cutV_length (xs : List V) (lo hi : Option Int) : (cutV xs lo hi).length ≤ xs.length := by
  unfold cutV
  rw [List.length_take, List.length_drop]
  omega

/-! ### t < u, t + u -/
end
end L2

namespace L2
open PySem PySem.Spec PyProof.Rows

/-! ### places -/
/-- the place that an index of any sign means -/
def ixN (n : Nat) (i : Int) : Option Nat := if 0 ≤ i then (if i < n then some i.toNat else none) else if -(n : Int) ≤ i then some (i + n).toNat else none
def atI {α : Type} (xs : List α) (i : Int) : Option α := (ixN xs.length i).bind fun j => xs[j]?
theorem ixN_seq {n : Nat} {i : Int} {j : Nat} (h : ixN n i = some j) : seqIndex? i n = some j ∧ j < n ∧ -(n : Int) ≤ i ∧ i < n := by
  unfold ixN at h
  by_cases h0 : 0 ≤ i
  · rw [if_pos h0] at h
    by_cases h1 : i < n
    · rw [if_pos h1] at h
      have e : i.toNat = j := Option.some.inj h
      exact ⟨by rw [seqIndex_of h0 h1, e], by omega, by omega, h1⟩
    · rw [if_neg h1] at h; cases h
  · rw [if_neg h0] at h
    by_cases h1 : -(n : Int) ≤ i
    · rw [if_pos h1] at h
      have e : (i + n).toNat = j := Option.some.inj h
      exact ⟨by rw [seqIndex_neg (by omega) h1, e], by omega, h1, by omega⟩
    · rw [if_neg h1] at h; cases h
theorem atI_get {α : Type} {xs : List α} {i : Int} {v : α} (h : atI xs i = some v) : ∃ j, seqIndex? i xs.length = some j ∧ xs[j]? = some v ∧ j < xs.length ∧ -(xs.length : Int) ≤ i ∧ i < xs.length := by
  unfold atI at h
  cases e : ixN xs.length i with
  | none => rw [e] at h; cases h
  | some j =>
    rw [e] at h
    obtain ⟨h1, h2, h3, h4⟩ := ixN_seq e
    exact ⟨j, h1, h, h2, h3, h4⟩
theorem atI_nat {α : Type} {xs : List α} {j : Nat} {v : α} (h : xs[j]? = some v) : atI xs (j : Int) = some v := by
  have hj : j < xs.length := (List.getElem?_eq_some_iff.mp h).1
  have e : ixN xs.length (j : Int) = some j := by
    unfold ixN
    rw [if_pos (by omega), if_pos (by omega)]; simp
  unfold atI; rw [e]; exact h

/-! ### what may be subscripted -/
/-- what stands as an index of a plain subscript -/
def PlainIx (b : Expr) : Prop := ∀ o i, subscripted b false o i = operate [o, i] (getItem o i)
/-- a subscript by values -/
def IxR (X : Cx) (r : R2) : Prop :=
  ∀ (value slice : Expr) (pins : List (Addr × Obj)) (s : Shared) (σ : St) (H : Hp) (x y : V) (v u : Value) (Q : VK), Inv X pins σ H s → RelV x v → RelV y u → r x y H Q →
    subscripted slice false v u = operate [v, u] (getItem v u) → wpAny (model X.prog X.w) X.A (subscriptTail value slice v u) (EP X pins σ Q) X.xe s
/-- a call of a builtin's method by values: the receiver, the arguments -/
def MtR (X : Cx) (id : String) (r : V → List V → Hp → VK → Prop) : Prop :=
  ∀ (pins : List (Addr × Obj)) (s : Shared) (σ : St) (H : Hp) (x : V) (xs : List V) (v : Value) (us : List Value) (Q : VK), Inv X pins σ H s → RelV x v → Vals xs us → r x xs H Q →
    wpAny (model X.prog X.w) X.A (call (.builtin id) (v :: us)) (EP X pins σ Q) X.xe s
section
variable {X : Cx} {a b : Expr} {ta tb : TE} {pos : Pos}
/-- a[b] -/
theorem pe_ix {r : R2} (hr : IxR X r) (ha : PE X a ta) (hb : PE X b tb) (hs : PlainIx b) : PE X (.Subscript a b pos) (tOp r ta tb) := by
  intro pins s σ H Q I h
  exact Subscript_ (binT ha hb I h fun v u s2 x y H2 I2 rx ry q => hr a b pins s2 σ H2 x y v u Q I2 rx ry q (hs _ _))

def rIxL (K : PySem.W.Frag) : R2 := fun x y H Q => ∃ p xs i v, x = .ref p ∧ y = .int i ∧ SqL K H p xs ∧ atI xs i = some v ∧ Q v H
def rIxT (K : PySem.W.Frag) : R2 := fun x y H Q => ∃ p xs i v, x = .ref p ∧ y = .int i ∧ SqT K H p xs ∧ atI xs i = some v ∧ Q v H
theorem ix_list : IxR X (rIxL X.K) := by
  intro value slice pins s σ H x y v u Q I rx ry h hs
  obtain ⟨p, xs, i, z, rfl, rfl, hq, he, q⟩ := h
  cases rx
  obtain ⟨t, rfl⟩ := ry
  obtain ⟨its, r, pl, hz⟩ := I.list hq
  obtain ⟨j, h1, h2, h3, h4, h5⟩ := atI_get he
  obtain ⟨w, ew, rw'⟩ := r.get h2
  have hl := r.length
  have hn := line63
  have fin : EP X pins σ Q w s := ⟨z, H, I, rw', q⟩
  by_cases h0 : 0 ≤ i
  · have hj : i.toNat = j := by
      rw [seqIndex_of h0 h5] at h1
      exact Option.some.inj h1
    exact item_listR pl.isList h0 (by omega) (by rw [hj]; simpa using ew) fin hs
  · have hj : (i + (its.toArray.size : Int)).toNat = j := by
      rw [seqIndex_neg (by omega) h4] at h1
      rw [List.size_toArray, ← hl]
      exact Option.some.inj h1
    exact subscriptTail_builtinR (x := w) pl.isList.typeIs slot_list_getitem.lookup
      (wpAny_getItem_list_neg (Q := fun r s' => r = w ∧ EP X pins σ Q r s') pl.isList (by omega) (by rw [List.size_toArray] <;> omega) (by omega) (by rw [hj]; simpa using ew) ⟨rfl, fin⟩) hs
theorem ix_tup : IxR X (rIxT X.K) := by
  intro value slice pins s σ H x y v u Q I rx ry h hs
  obtain ⟨p, xs, i, z, rfl, rfl, hq, he, q⟩ := h
  cases rx
  obtain ⟨t, rfl⟩ := ry
  obtain ⟨its, r, pl, hz⟩ := I.tuple hq
  obtain ⟨j, h1, h2, h3, h4, h5⟩ := atI_get he
  obtain ⟨w, ew, rw'⟩ := r.get h2
  have hl := r.length
  have hn := line63
  have fin : EP X pins σ Q w s := ⟨z, H, I, rw', q⟩
  exact subscriptTail_builtinR (x := w) pl.typeIs slot_tuple_getitem.lookup
    (getItem_tuple (j := j) (Q := fun r s' => r = w ∧ EP X pins σ Q r s') pl (by omega) (by omega) (by rw [List.size_toArray, ← hl]; exact h1) (by simpa using ew) ⟨rfl, fin⟩) hs

/-! ### xs[i] = v, any sign -/
/-- the list's object behind a store -/
theorem mapSeq_set (its : List Value) (n j : Nat) (u : Value) : Obj.mapSeq (·.setIfInBounds j u) { cls := .type "list", data := .seq its.toArray n } = { cls := .type "list", data := .seq (its.set j u).toArray n } := by
  simp [Obj.mapSeq]
theorem Inv.lst {pins : List (Addr × Obj)} {σ : St} {H : Hp} {s : Shared} {p : Addr} {xs : List V} (I : Inv X pins σ H s) (h : H p = some (.lst xs)) :
    ∃ (its : List Value) (n : Nat), Vals xs its ∧ s.heap.get? p = some { cls := .type "list", data := .seq its.toArray n } ∧ xs.length ≤ sizeLine := by
  obtain ⟨z, its, n, r, e⟩ := I.hok p _ h
  exact ⟨its, n, r, e, z⟩
/-- the list at p is written by an update of its object -/
theorem Inv.lstUpd {pins : List (Addr × Obj)} {σ : St} {H : Hp} {s : Shared} {p : Addr} {xs ys : List V} {its its' : List Value} {n n' : Nat} {f : Obj → Obj} (I : Inv X pins σ H s) (h : H p = some (.lst xs))
    (ho : s.heap.get? p = some { cls := .type "list", data := .seq its.toArray n }) (hf : f { cls := .type "list", data := .seq its.toArray n } = { cls := .type "list", data := .seq its'.toArray n' }) (r : Vals ys its') (hz : ys.length ≤ sizeLine) (t : Nat) :
    Inv X pins σ (upd H p (.lst ys)) { s with heap := s.heap.update p f, toks := t } := by
  have e : (s.heap.update p f).get? p = some { cls := .type "list", data := .seq its'.toArray n' } := by
    rw [Heap.get?_update_self f ho (by rw [hf] <;> rfl), hf]
  refine I.write (x := p) (e := p) (by rw [h]; trivial) (.inl rfl) (fun b u hb q => (Heap.get?_update_other _ _ (Ne.symm hb)).trans q) ⟨_, e⟩ ?_
  exact ⟨hz, its', n', r, e⟩
def rSetL : V → V → V → Hp → (Hp → Prop) → Prop := fun o i v H Q => ∃ p xs k j, o = .ref p ∧ i = .int k ∧ H p = some (.lst xs) ∧ ixN xs.length k = some j ∧ Q (upd H p (.lst (xs.set j v)))
theorem set_list : PSet X rSetL := by
  intro pins s σ H o i v ov iv u Q I ro ri rv h
  obtain ⟨p, xs, k, j, rfl, rfl, hp, hj, q⟩ := h
  cases ro
  obtain ⟨t, rfl⟩ := ri
  obtain ⟨its, n, r, ho, hz⟩ := I.lst hp
  obtain ⟨h1, h2, h3, h4⟩ := ixN_seq hj
  have hl := r.length
  have hn := line63
  have I' : Inv X pins σ (upd H p (.lst (xs.set j v))) { s with heap := s.heap.update p (Obj.mapSeq (·.setIfInBounds j u)) } :=
    I.lstUpd hp ho (mapSeq_set its n j u) (r.set rv j) (by rw [List.length_set]; exact hz) s.toks
  by_cases h0 : 0 ≤ k
  · have hk : k.toNat = j := by
      rw [seqIndex_of h0 h4] at h1
      exact Option.some.inj h1
    exact PySem.W.ki_setAt ho h0 (by omega) (by rw [List.size_toArray, ← hl]; exact h4) (by rw [hk]; exact ⟨_, I', q⟩)
  · have hk : (k + (its.toArray.size : Int)).toNat = j := by
      rw [seqIndex_neg (by omega) h3] at h1
      rw [List.size_toArray, ← hl]
      exact Option.some.inj h1
    exact PySem.W.ki_setBack ho (by omega) (by rw [List.size_toArray, ← hl]; exact h3) (by omega) (by rw [hk]; exact ⟨_, I', q⟩)

/-! ### slices -/
theorem slice_bounds (lo hi : Option Int) (n : Nat) : (sliceBounds lo hi none n).1 = ((HT.sIx n 0 lo : Nat) : Int) ∧ (sliceBounds lo hi none n).2.1 = ((HT.sIx n n hi : Nat) : Int) ∧ (sliceBounds lo hi none n).2.2 = 1 := by
  refine ⟨?_, ?_, rfl⟩
  · cases lo with
    | none => simp [sliceBounds, HT.sIx]
    | some i =>
      simp only [sliceBounds, HT.sIx, Option.getD_none, show (1 : Int) > 0 by decide, if_true]
      by_cases h : i < 0
      · simp only [h, if_true] <;> omega
      · simp only [h, if_false] <;> omega
  · cases hi with
    | none => simp [sliceBounds, HT.sIx]
    | some i =>
      simp only [sliceBounds, HT.sIx, Option.getD_none, show (1 : Int) > 0 by decide, if_true]
      by_cases h : i < 0
      · simp only [h, if_true] <;> omega
      · simp only [h, if_false] <;> omega
theorem slicePick_cut (its : List Value) (lo hi : Option Int) : slicePick its.toArray lo hi none = ((its.drop (HT.sIx its.length 0 lo)).take (HT.sIx its.length its.length hi - HT.sIx its.length 0 lo)).toArray := by
  obtain ⟨h1, h2, h3⟩ := slice_bounds lo hi its.toArray.size
  unfold slicePick
  rw [h1, h2, h3]
  simp only [sliceRange_one, pick_run, List.size_toArray] <;> rfl
/-- xs[lo:hi] of a list: a new list -/
def rSlL (K : PySem.W.Frag) : V → Option Int → Option Int → Hp → VK → Prop := fun x lo hi H Q => ∃ a xs, x = .ref a ∧ SqL K H a xs ∧ ∀ p, H p = none → Q (.ref p) (upd H p (.lst (cutV xs lo hi)))
theorem sl_list : SlR X (rSlL X.K) := by
  intro pins s σ H x v vl vu lo hi sl Q I rx hs pl pu h
  obtain ⟨a, xs, rfl, hx, q⟩ := h
  cases rx
  obtain ⟨its, r, ht, hz⟩ := I.list hx
  have hlen := r.length
  refine ⟨"list", _, slot_list_getitem.lookup, ht.isList.typeIs, ?_⟩
  refine wpAny_getItem_list_slice ht.isList hs pl pu .none (by simp) ?_ (by rw [List.size_toArray] <;> omega)
  rw [slicePick_cut, ← hlen]
  refine ⟨.ref s.heap.objs.size, _, I.laid (t' := s.toks) (o := .lst (cutV xs lo hi)) (fun b ob q => Heap.get?_push_of_some _ q) (Nat.le_refl _) ?_, rfl, q _ (I.hok.fresh (Nat.le_refl _))⟩
  exact ⟨Nat.le_trans (cutV_length xs lo hi) hz, _, 0, (r.drop (HT.sIx xs.length 0 lo)).take (HT.sIx xs.length xs.length hi - HT.sIx xs.length 0 lo), Heap.get?_push_size _ rfl⟩

/-! ### in, not in: flat items -/
def flatV : V → Bool
  | .non => true
  | .bl _ => true
  | .int _ => true
  | .str _ => true
  | _ => false
/-- == of flat values -/
def eqV : V → V → Bool
  | .non, .non => true
  | .bl a, .bl b => a == b
  | .bl a, .int b => (if a then 1 else 0) == b
  | .int a, .bl b => a == (if b then 1 else 0)
  | .int a, .int b => a == b
  | .str a, .str b => a == b
  | _, _ => false
theorem eqAt_V {A : Around} {s : Shared} {y x : V} {u v : Value} (ry : RelV y u) (rx : RelV x v) (fy : flatV y = true) (fx : flatV x = true) : SeqAt.EqAt A s u v (eqV y x) := by
  cases y with
  | non =>
    cases ry
    cases x with
    | non => cases rx; exact SeqAt.EqAt.same _
    | bl b => cases rx; exact SeqAt.EqAt.none_bool b
    | int b => obtain ⟨t, rfl⟩ := rx; exact SeqAt.EqAt.none_int b t
    | str b => obtain ⟨t, rfl⟩ := rx; exact SeqAt.EqAt.none_str b t
    | _ => exact absurd (show false = true from fx) Bool.false_ne_true
  | bl a =>
    cases ry
    cases x with
    | non => cases rx; exact SeqAt.EqAt.bool_none a
    | bl b => cases rx; exact SeqAt.EqAt.bool_bool a b
    | int b => obtain ⟨t, rfl⟩ := rx; exact SeqAt.EqAt.bool_int a b t
    | str b => obtain ⟨t, rfl⟩ := rx; exact SeqAt.EqAt.bool_str a b t
    | _ => exact absurd (show false = true from fx) Bool.false_ne_true
  | int a =>
    obtain ⟨t', rfl⟩ := ry
    cases x with
    | non => cases rx; exact SeqAt.EqAt.int_none a t'
    | bl b => cases rx; exact SeqAt.EqAt.int_bool a t' b
    | int b => obtain ⟨t, rfl⟩ := rx; exact SeqAt.EqAt.int_int a t' b t
    | str b => obtain ⟨t, rfl⟩ := rx; exact SeqAt.EqAt.int_str a t' b t
    | _ => exact absurd (show false = true from fx) Bool.false_ne_true
  | str a =>
    obtain ⟨t', rfl⟩ := ry
    cases x with
    | non => cases rx; exact SeqAt.EqAt.str_none a t'
    | bl b => cases rx; exact SeqAt.EqAt.str_bool a t' b
    | int b => obtain ⟨t, rfl⟩ := rx; exact SeqAt.EqAt.str_int a t' b t
    | str b => obtain ⟨t, rfl⟩ := rx; exact SeqAt.EqAt.str_str a t' b t
    | _ => exact absurd (show false = true from fx) Bool.false_ne_true
  | _ => exact absurd (show false = true from fy) Bool.false_ne_true
/-- the items' answers, read off the values (a value's own answer does not lean on its token) -/
def eqU (x : V) (u : Value) : Bool := match u with
  | .none => eqV .non x
  | .bool b => eqV (.bl b) x
  | .int i _ => eqV (.int i) x
  | .str z _ => eqV (.str z) x
  | _ => false
theorem eqU_of {x y : V} {u : Value} (r : RelV y u) (f : flatV y = true) : eqU x u = eqV y x := by
  cases y with
  | non => cases r; rfl
  | bl b => cases r; rfl
  | int i => obtain ⟨t, rfl⟩ := r; rfl
  | str z => obtain ⟨t, rfl⟩ := r; rfl
  | _ => exact absurd (show false = true from f) Bool.false_ne_true
theorem any_eqU {x : V} : ∀ {xs : List V} {us : List Value}, Vals xs us → xs.all flatV = true → us.any (eqU x) = xs.any fun y => eqV y x
  | _, _, .nil, _ => rfl
  | y :: xs, u :: us, .cons r t, f => by
    rw [List.all_cons, Bool.and_eq_true] at f
    rw [List.any_cons, List.any_cons, eqU_of r f.1, any_eqU t f.2]
theorem mem_eqAt {A : Around} {s : Shared} {x : V} {v : Value} (rx : RelV x v) (fx : flatV x = true) : ∀ {xs : List V} {us : List Value}, Vals xs us → xs.all flatV = true → ∀ u ∈ us, SeqAt.EqAt A s u v (eqU x u)
  | _, _, .nil, _ => fun u hu => by cases hu
  | y :: xs, u :: us, .cons r t, f => fun u' hu => by
    rw [List.all_cons, Bool.and_eq_true] at f
    rcases List.mem_cons.mp hu with rfl | hu
    · rw [eqU_of r f.1]; exact eqAt_V r rx f.1 fx
    · exact mem_eqAt rx fx t f.2 u' hu
def inV (x : V) (xs : List V) : Bool := xs.any fun y => eqV y x
/-- x in a list or tuple of flat items -/
def rIn (K : PySem.W.Frag) (neg : Bool) : R2 := fun x y H Q => ∃ p xs, y = .ref p ∧ (SqL K H p xs ∨ SqT K H p xs) ∧ flatV x = true ∧ xs.all flatV = true ∧ Q (.bl (if neg then !inV x xs else inV x xs)) H
theorem op_notIn_seq : OpR X (compareOp .NotIn) (rIn X.K true) := by
  intro pins s σ H x y v u Q I rx ry h
  obtain ⟨p, xs, rfl, hq, fx, fs, q⟩ := h
  cases ry
  rcases hq with hq | hq
  · obtain ⟨its, r, pl, hz⟩ := I.list hq
    refine SeqAt.notIn_listAt (eqU x) pl.isList (fun w hw => mem_eqAt rx fx r fs w (by simpa using hw)) ⟨.bl _, H, I, rfl, ?_⟩
    rw [show its.toArray.any (eqU x) = its.any (eqU x) by simp, any_eqU r fs]
    exact q
  · obtain ⟨its, r, pl, hz⟩ := I.tuple hq
    refine SeqAt.notIn_tupleAt (eqU x) pl (fun w hw => mem_eqAt rx fx r fs w (by simpa using hw)) ⟨.bl _, H, I, rfl, ?_⟩
    rw [show its.toArray.any (eqU x) = its.any (eqU x) by simp, any_eqU r fs]
    exact q

/-! ### len, list(x), tuple(x) of any list or tuple that is read -/
theorem call_len_seq : CallR X (.builtin "len") (fun xs H Q => ∃ p ys, xs = [.ref p] ∧ (SqL X.K H p ys ∨ SqT X.K H p ys) ∧ Q (.int ys.length) H) := by
  intro pins s σ H xs us Q I r h
  obtain ⟨p, ys, rfl, hq, q⟩ := h
  obtain ⟨u, rfl, rx⟩ := vals1 r
  cases rx
  have hn := line63
  rcases hq with hq | hq
  · obtain ⟨its, r', pl, hz⟩ := I.list hq
    have hlen := r'.length
    exact Calls.call_len_list pl.isList (by simp only [List.size_toArray] <;> omega) ⟨.int ys.length, H, I.tok _, ⟨s.toks + 1, by rw [List.size_toArray, hlen]⟩, q⟩
  · obtain ⟨its, r', pl, hz⟩ := I.tuple hq
    have hlen := r'.length
    exact len_tuple pl (by simp only [List.size_toArray] <;> omega) ⟨.int ys.length, H, I.tok _, ⟨s.toks + 1, by rw [List.size_toArray, hlen]⟩, q⟩
theorem call_list_of : CallR X (.type "list") (fun xs H Q => ∃ p ys, xs = [.ref p] ∧ (SqL X.K H p ys ∨ SqT X.K H p ys) ∧ ∀ l, H l = none → Q (.ref l) (upd H l (.lst ys))) := by
  intro pins s σ H xs us Q I r h
  obtain ⟨p, ys, rfl, hq, q⟩ := h
  obtain ⟨u, rfl, rx⟩ := vals1 r
  cases rx
  have fin : ∀ (its : List Value), Vals ys its → ys.length ≤ sizeLine → ∀ (h' : Heap) (c' : Nat), (∀ b o', s.heap.get? b = some o' → h'.get? b = some o') →
      h'.get? s.heap.objs.size = some { cls := .type "list", dict := none, data := .seq its.toArray c', slots := #[] } → EP X pins σ Q (.ref s.heap.objs.size) { s with heap := h' } := fun its r' hz h' c' kp e =>
    ⟨.ref s.heap.objs.size, _, I.laid (t' := s.toks) kp (Nat.le_refl _) (show ObjOk X.prog X.w _ h' _ (.lst ys) from ⟨hz, its, c', r', e⟩), rfl, q _ (I.hok.fresh (Nat.le_refl _))⟩
  rcases hq with hq | hq
  · obtain ⟨its, r', pl, hz⟩ := I.list hq
    have hlen := r'.length
    obtain ⟨o, ho, hc, n, hd⟩ := pl.isList
    exact call_list_seq p (.inl rfl) ho hc hd (fun h' c' kp e => fin its r' hz h' c' kp e) (by simp only [List.size_toArray] <;> omega)
  · obtain ⟨its, r', pl, hz⟩ := I.tuple hq
    have hlen := r'.length
    obtain ⟨o, ho, hc, n, hd⟩ := pl
    exact call_list_seq p (.inr rfl) ho hc hd (fun h' c' kp e => fin its r' hz h' c' kp e) (by simp only [List.size_toArray] <;> omega)

/-! ### the call of a builtin's method: o.m(..) -/
/-- the value is of that builtin type -/
def tyV (K : PySem.W.Frag) (T : String) (x : V) (H : Hp) : Prop := match x with
  | .str _ => T = "str"
  | .int _ => T = "int"
  | .ref p => (T = "list" ∧ ∃ xs, SqL K H p xs) ∨ (T = "tuple" ∧ ∃ o, K.lookup p = some o ∧ o.cls = .type "tuple" ∧ o.dict = none) ∨
      (T = "dict" ∧ ((∃ kvs, H p = some (.dK kvs)) ∨ ∃ kvs, H p = some (.dT kvs))) ∨ (T = "set" ∧ ∃ S n, H p = some (.set S n))
  | _ => False
theorem tyV_is {pins : List (Addr × Obj)} {σ : St} {H : Hp} {s : Shared} {T : String} {x : V} {v : Value} (I : Inv X pins σ H s) (r : RelV x v) (ty : tyV X.K T x H) :
    s.TypeIs v T ∧ ∀ a, v = .ref a → ∃ ob, s.heap.get? a = some ob ∧ ob.dict = none := by
  cases x with
  | str z =>
    obtain ⟨t, rfl⟩ := r
    cases (show T = "str" from ty)
    exact ⟨typeIs_str s z t, fun _ e => nomatch e⟩
  | int i =>
    obtain ⟨t, rfl⟩ := r
    cases (show T = "int" from ty)
    exact ⟨typeIs_int s i t, fun _ e => nomatch e⟩
  | ref p =>
    cases r
    rcases ty with ⟨rfl, xs, hq⟩ | ⟨rfl, o, hk, hc, hd⟩ | ⟨rfl, hk⟩ | ⟨rfl, S, n, hk⟩
    · obtain ⟨its, _, pl, _⟩ := I.list hq
      refine ⟨pl.isList.typeIs, fun a e => ?_⟩
      cases e
      obtain ⟨o, n, e, c, hd, _⟩ := pl
      exact ⟨o, e, hd⟩
    · refine ⟨⟨o, I.kIn p o hk, hc⟩, fun a e => ?_⟩
      cases e
      exact ⟨o, I.kIn _ o hk, hd⟩
    · have z : ∃ o, s.heap.get? p = some o ∧ o.ExactDict := by
        rcases hk with ⟨kvs, hk⟩ | ⟨kvs, hk⟩
        · obtain ⟨_, _, _, _, o, _, _, e, ex, _⟩ := I.hok p _ hk
          exact ⟨o, e, ex⟩
        · obtain ⟨_, _, _, _, o, _, _, e, ex, _⟩ := I.hok p _ hk
          exact ⟨o, e, ex⟩
      obtain ⟨o, e, ex⟩ := z
      refine ⟨⟨o, e, ex.1⟩, fun a e2 => ?_⟩
      cases e2
      exact ⟨o, e, ex.2.1⟩
    · obtain ⟨o, _, _, _, e, ex, _⟩ := I.hok p _ hk
      refine ⟨⟨o, e, ex.1⟩, fun a e2 => ?_⟩
      cases e2
      exact ⟨o, e, ex.2.1⟩
  | _ => exact False.elim ty
def tBM (K : PySem.W.Frag) (T : String) (r : V → List V → Hp → VK → Prop) (to : TE) (t : TA) : TE := fun σ H Q => to σ H fun x H1 => tyV K T x H1 ∧ t σ H1 fun xs H2 => r x xs H2 Q
variable {o e : Expr} {es : List Expr} {to : TE} {t : TA} {name : Str} {apos cpos : Pos} {T id : String} {r : V → List V → Hp → VK → Prop}
theorem pe_bm (pa : PlainAttrs T) (slot : Slot T name id) (hty : typeOf (.builtin id) = pure (.type "method_descriptor")) (hm : MtR X id r) (ho : PE X o to) (ha : PA X (e :: es) t)
    (hbase : attributeBase o name X.env (eval o X.env) = eval o X.env := by rfl)
    (hfew : ((backTo cpos (starEach (e :: es) X.env)).all (fun x => !x.1) && (backToKw cpos (keywordEach [] X.env)).all (fun x => x.1.isSome)
      && decide ((e :: es).length + ([] : List Keyword).length + (if ([] : List Keyword).isEmpty then 0 else 1) < 30)) = true := by rfl)
    (hline : (apos.endLine == cpos.line) = true := by rfl) (hs : starEach (e :: es) X.env = (false, eval e X.env) :: starEach es X.env := by rfl) (hplain : (backTo cpos (starEach es X.env)).any (·.1) = false := by rfl) :
    PE X (.Call (.Attribute o name apos) (e :: es) [] cpos) (tBM X.K T r to t) := by
  intro pins s σ H Q I h
  refine wpAny_Call_method_late hbase hfew hline rfl (thn (ho pins s σ H _ I h) fun v s1 ⟨x, H1, I1, r1, ty, q1⟩ => ?_)
  obtain ⟨h1, h2⟩ := tyV_is I1 r1 ty
  refine ⟨T, id, pa, slot, hty, h1, h2, ?_⟩
  have hA := ha cpos pins s1 σ H1 _ I1 q1
  rw [hs] at hA ⊢
  refine Calls.callWith_builtin (by show (false || (backTo cpos (starEach es X.env)).any (·.1)) = false; rw [hplain] <;> rfl) (Calls.evalArgs_plain ?_)
  exact thn hA fun us s2 ⟨vs, H2, I2, r2, q2⟩ => hm pins s2 σ H2 x vs v us Q I2 r1 r2 q2
/- xs.append(e), list.index on a module's tuple .. are MtR facts of 06m -/
end
end L2

namespace L2
open PySem PySem.Spec PyProof.Rows

def MtM (X : Cx) (id : String) (r : V → List V → Hp → VK → Prop) : Prop :=
  ∀ (pins : List (Addr × Obj)) (s : Shared) (σ : St) (H : Hp) (x : V) (xs : List V) (v : Value) (us : List Value) (Q : VK), Inv X pins σ H s → RelV x v → Vals xs us → r x xs H Q →
    wpAny (model X.prog X.w) X.A (call (.builtin id) (v :: us)) (EP X pins σ Q) X.xe s

/-! ### lists of values -/
theorem Vals.one : ∀ {x : V} {us : List Value}, Vals [x] us → ∃ u, us = [u] ∧ RelV x u
  | _, _, .cons r .nil => ⟨_, rfl, r⟩
theorem Vals.rep {xs : List V} {us : List Value} (h : Vals xs us) : ∀ k : Nat, Vals (List.replicate k xs).flatten (List.replicate k us).flatten
  | 0 => .nil
  | k + 1 => by
    rw [List.replicate_succ, List.replicate_succ, List.flatten_cons, List.flatten_cons]
    exact Vals.append h (Vals.rep h k)
theorem foldl_rep (its : List Value) : ∀ (k : Nat) (acc : List Value),
    List.foldl (fun x1 x2 => x1 ++ x2) acc.toArray (List.replicate k its.toArray) = (acc ++ (List.replicate k its).flatten).toArray
  | 0, acc => by simp
  | k + 1, acc => by
    have e : acc.toArray ++ its.toArray = (acc ++ its).toArray := by simp
    have e2 : (acc ++ its) ++ (List.replicate k its).flatten = acc ++ (List.replicate (k + 1) its).flatten := by
      rw [List.replicate_succ, List.flatten_cons, List.append_assoc]
    rw [← e2, ← foldl_rep its k (acc ++ its), ← e, List.replicate_succ, List.foldl_cons]

section
variable {X : Cx} {pins : List (Addr × Obj)} {σ : St} {H : Hp} {s : Shared} {l b : Addr} {xs ys zs : List V}

/-! ### the two steps: a tracked list is rewritten, a new list is laid -/
theorem Inv.lset {its its' : List Value} {n : Nat} {f : Array Value → Array Value} {t' : Nat} (I : Inv X pins σ H s) (hH : H l = some (.lst xs))
    (e : s.heap.get? l = some { cls := .type "list", data := .seq its.toArray n }) (hf : f its.toArray = its'.toArray) (hv : Vals ys its') (hz : ys.length ≤ sizeLine) :
    Inv X pins σ (upd H l (.lst ys)) { s with heap := s.heap.update l (Obj.mapSeq f), toks := t' } := by
  have q := PySem.IsL.update e f
  rw [hf] at q
  refine I.write (x := l) (e := l) (by rw [hH]; exact trivial) (.inl rfl) (fun b' u hb hu => (Heap.get?_update_other s.heap (Obj.mapSeq f) (Ne.symm hb)).trans hu) ⟨_, q⟩ ?_
  exact ⟨hz, its', _, hv, q⟩
theorem Inv.lnew {its : List Value} {t' : Nat} (I : Inv X pins σ H s) (hv : Vals ys its) (hz : ys.length ≤ sizeLine) :
    Inv X pins σ (upd H s.heap.objs.size (.lst ys)) { s with heap := s.heap.push { cls := .type "list", data := .seq its.toArray }, toks := t' } :=
  I.laid (fun _ _ q => Heap.get?_push_of_some _ q) (Nat.le_refl _) ⟨hz, its, 0, hv, Heap.get?_push_size _ rfl⟩
theorem Inv.fresh (I : Inv X pins σ H s) : H s.heap.objs.size = none := I.hok.fresh (Nat.le_refl _)
theorem Inv.lstM (I : Inv X pins σ H s) (hH : H l = some (.lst xs)) : xs.length ≤ sizeLine ∧ ∃ (its : List Value) (n : Nat), Vals xs its ∧ xs.length = its.length ∧ s.heap.get? l = some { cls := .type "list", data := .seq its.toArray n } := by
  obtain ⟨z, its, n, r, e⟩ := I.hok l _ hH
  exact ⟨z, its, n, r, r.length, e⟩

theorem notLongL {n : Nat} (h : n ≤ sizeLine) : Builtin.List.listTooLong n = false := by
  unfold Builtin.List.listTooLong
  exact decide_eq_false (by omega)
end

section
variable {X : Cx}

/-! ### methods -/
def rAppend : V → List V → Hp → VK → Prop := fun x vs H Q => ∃ l xs y, x = .ref l ∧ vs = [y] ∧ H l = some (.lst xs) ∧ xs.length < sizeLine ∧ Q .non (upd H l (.lst (xs ++ [y])))
theorem mt_append : MtM X "list.append" rAppend := by
  intro pins s σ H x vs v us Q I rx rv h
  obtain ⟨l, xs, y, rfl, rfl, hH, hz, q⟩ := h
  cases rx
  obtain ⟨u, rfl, ru⟩ := rv.one
  obtain ⟨z, its, n, r, hl, e⟩ := I.lstM hH
  refine call_meets F.slot_list_append ⟨_, e, rfl⟩ F.entry_list_append (F.args_list_append_2 _ _) (PySem.list_append l its.toArray n u (by rw [List.size_toArray]; omega)) ⟨e, ?_⟩
  refine ⟨.non, _, I.lset (its' := its ++ [u]) hH e (by simp) (r.append (.cons ru .nil)) ?_, rfl, q⟩
  rw [List.length_append, List.length_singleton]
  omega

def rExtend : V → List V → Hp → VK → Prop := fun x vs H Q => ∃ l b xs zs, x = .ref l ∧ vs = [.ref b] ∧ H l = some (.lst xs) ∧ H b = some (.lst zs) ∧ xs.length + zs.length ≤ sizeLine ∧ Q .non (upd H l (.lst (xs ++ zs)))
theorem mt_extend : MtM X "list.extend" rExtend := by
  intro pins s σ H x vs v us Q I rx rv h
  obtain ⟨l, b, xs, zs, rfl, rfl, hH, hB, hz, q⟩ := h
  cases rx
  obtain ⟨u, rfl, ru⟩ := rv.one
  cases ru
  obtain ⟨z, its, n, r, hl, e⟩ := I.lstM hH
  obtain ⟨z2, its2, n2, r2, hl2, e2⟩ := I.lstM hB
  have hsz : its.toArray.size + its2.toArray.size ≤ sizeLine := by rw [List.size_toArray, List.size_toArray]; omega
  have hlong : ¬ (!its.toArray.isEmpty && Builtin.List.listTooLong (its.toArray.size + its2.toArray.size)) = true := by
    rw [notLongL hsz, Bool.and_false]
    exact Bool.false_ne_true
  refine call_meets F.slot_list_extend ⟨_, e, rfl⟩ F.entry_list_extend (F.args_list_extend_2 _ _)
    (AutoSeq1.list_extend_list_list_0 l its.toArray n b its2.toArray n2 hlong (by rw [List.size_toArray]; omega) (by omega)) ⟨e, e2, ?_⟩
  refine ⟨.non, _, I.lset (its' := its ++ its2) hH e (by simp) (r.append r2) ?_, rfl, q⟩
  rw [List.length_append]
  omega





/-! ### list + list, list += list, list * int -/
def rCat : R2 := fun x y H Q => ∃ l b xs zs, x = .ref l ∧ y = .ref b ∧ H l = some (.lst xs) ∧ H b = some (.lst zs) ∧ xs.length + zs.length ≤ sizeLine ∧ ∀ p, H p = none → Q (.ref p) (upd H p (.lst (xs ++ zs)))
theorem op_cat : OpR X (binaryOp .Add) rCat := by
  intro pins s σ H x y v u Q I rx ry h
  obtain ⟨l, b, xs, zs, rfl, rfl, hH, hB, hz, q⟩ := h
  cases rx
  cases ry
  obtain ⟨z, its, n, r, hl, e⟩ := I.lstM hH
  obtain ⟨z2, its2, n2, r2, hl2, e2⟩ := I.lstM hB
  refine PySem.P.add_list e e2 ?_ (by rw [List.size_toArray, List.size_toArray]; omega)
  have ea : its.toArray ++ its2.toArray = (its ++ its2).toArray := by simp
  rw [ea]
  exact ⟨.ref _, _, I.lnew (t' := s.toks) (r.append r2) (by rw [List.length_append]; omega), rfl, q _ I.fresh⟩
/-- a list times an int (a negative one is nothing) -/
def rRep : R2 := fun x y H Q => ∃ l k xs, x = .ref l ∧ y = .int k ∧ H l = some (.lst xs) ∧ -(2 ^ 63) ≤ k ∧ k < 2 ^ 63 ∧ xs.length * k.toNat ≤ sizeLine ∧
  ∀ p, H p = none → Q (.ref p) (upd H p (.lst (List.replicate k.toNat xs).flatten))
theorem len_rep {α : Type} (xs : List α) (k : Nat) : (List.replicate k xs).flatten.length = k * xs.length := by
  induction k with
  | zero => simp
  | succ k ih => rw [List.replicate_succ, List.flatten_cons, List.length_append, ih, Nat.succ_mul, Nat.add_comm]
theorem op_rep : OpR X (binaryOp .Mult) rRep := by
  intro pins s σ H x y v u Q I rx ry h
  obtain ⟨l, k, xs, rfl, rfl, hH, h1, h2, hz, q⟩ := h
  cases rx
  obtain ⟨t, rfl⟩ := ry
  obtain ⟨z, its, n, r, hl, e⟩ := I.lstM hH
  have hlen : its.toArray.size * k.toNat ≤ sizeLine := by rw [List.size_toArray, ← hl]; exact hz
  have hcap : ¬ its.toArray.size * k.toNat > (2 ^ 63 - 1) / 8 := by
    have : (sizeLine : Nat) ≤ (2 ^ 63 - 1) / 8 := by decide
    omega
  have hfit : ¬ (!Builtin.List.listFitsIndex k) = true := by
    rw [fitsIndex_both h1 h2]
    exact Bool.false_ne_true
  have hlong : ¬ Builtin.List.listTooLong (its.toArray.size * k.toNat) = true := by
    rw [notLongL hlen]
    exact Bool.false_ne_true
  have hnew : List.foldl (fun x1 x2 => x1 ++ x2) #[] (List.replicate (if its.toArray.isEmpty = true then 0 else k.toNat) its.toArray) = (List.replicate k.toNat its).flatten.toArray := by
    have f0 : ∀ m : Nat, List.foldl (fun x1 x2 => x1 ++ x2) #[] (List.replicate m its.toArray) = (List.replicate m its).flatten.toArray := fun m => by
      have := foldl_rep its m []
      rw [List.nil_append] at this
      exact this
    rw [f0]
    cases its with
    | nil => simp
    | cons a r' => rw [if_neg (by simp)]
  refine wpAny_binaryOp_repeat_ref (T := "list") (U := "int") (by decide) ⟨_, e, rfl⟩ (fun s' => typeIs_int s' k t) noFill_list_mul F.fills_int_mul F.slot_int_rmul repeat_list F.slot_int_index.lookup
    (call_meets F.slot_int_rmul (typeIs_int s k t) F.entry_int_rmul (F.args_int_rmul_2 _ _) (int___rmul___int_list k t l its.toArray n)
      ⟨e, rfl, ⟨_, e, rfl⟩, call_meets F.slot_list_mul ⟨_, e, rfl⟩ F.entry_list_mul (F.args_list_mul_2 _ _) (AutoListH.list___mul___list_int_3 l its.toArray n k t hfit hcap hlong) ⟨e, ?_⟩⟩)
  rw [hnew]
  exact ⟨.ref _, _, I.lnew (t' := s.toks) (r.rep k.toNat) (by rw [len_rep, Nat.mul_comm]; exact hz), rfl, q _ I.fresh⟩

/-! ### del xs[i] -/
end

/-! ### xs[a:b] = ys -/
section
variable {prog : Program} {w : World} {A : Around} {E : Value → Shared → Prop} {s : Shared}
end

section
variable {X : Cx}
end
end L2

namespace Att
open PySem PySem.W PySem.Calls PyProof.Rows

/-! ### the script -/
theorem ints_of_wellAll {P : Params} {h : Heap} : ∀ (ns : List Int) (vs : List Value), WellAll P h vs (ns.map WData.int) → IntsAre vs ns := by
  intro ns
  induction ns with
  | nil =>
    intro vs w
    rw [List.map_nil] at w
    cases w
    exact .nil
  | cons n ns ih =>
    intro vs w
    rw [List.map_cons] at w
    cases w with
    | cons a b =>
      cases a
      exact .cons _ _ (ih _ b)

theorem script_of {l : OpenLaw} {n : Nat} (hn : l.most = some n) {P : Params} {h : Heap} {args : List WData} {vals : List Value}
    (hpre : l.row.toRowW.claim.pre args = true) (hwl : WellAll P h vals args) :
    ∃ a vs ns, vals = [Value.ref a] ∧ args = [WData.list (ns.map WData.int)] ∧ h.get? a = some { cls := .type "list", data := .seq vs.toArray } ∧ IntsAre vs ns ∧ ns.length ≤ n := by
  have hsh : WShape.hasAll [] args [.list .int] = true := (pre_splitW hpre).1
  have hc : l.pre.holds [] { args := args } = true := (pre_splitW hpre).2
  obtain ⟨d, r, rfl, h1, h2⟩ := hasAllW_cons hsh
  obtain rfl := hasAllW_nil h2
  obtain ⟨xs, rfl, h3⟩ := hasW_list h1
  obtain ⟨ns, rfl⟩ := items_int h3
  have hlen : ns.length ≤ n := by
    unfold OpenLaw.pre at hc
    have h4 : (WTm.not (.lt (.lit (.int (n : Int))) (.len (.arg 0)))).holds [] { args := [.list (ns.map .int)] } = true := by
      have h4 := (holds_andW hc).1
      rw [hn] at h4
      exact h4
    have h5 := condW_of h4 (w_not (w_lt w_lit (w_len_list (w_arg rfl))))
    rw [List.length_map] at h5
    refine Nat.le_of_not_lt fun q => ?_
    have q' : (n : Int) < ((ns.length : Nat) : Int) := by omega
    first
      | (rw [decide_eq_true q'] at h5; exact absurd h5 (by decide))
      | (simp at h5; omega)
  cases hwl with
  | cons w1 w2 =>
    cases w2
    cases w1 with
    | list ho hall => exact ⟨_, _, ns, rfl, rfl, ho, ints_of_wellAll ns _ hall, hlen⟩

theorem post_true (l : OpenLaw) (args : List WData) : l.row.toRowW.claim.post args (.bool true) args = true :=
  postW_of (r := l.row.toRowW) (X := (true == true))
    (show WShape.has [] (.bool true) .bool = true by first | rfl | decide | simp [WShape.has, WShape.arms, WShape.armsAll])
    (show (WTm.eq .res (.lit (.bool true))).value [] { args := args, res := some (.bool true), after := args } = some (.bool (true == true)) from w_eq_bool (w_res rfl) w_lit) rfl

/-! ### the attachment: holds_open's last premise (the goal 'hc' behind k_head) from a wpAny of the law's body -/

/-- the same from a codeAny of the CALL (for a layer whose function contracts speak of calls) -/
theorem attach_call {l : OpenLaw} {n : Nat} {q : Program} {loose : List Str} {XP : (Str → Option Value) → Heap → Prop} {YP : World → Heap → Prop} {d : DefRec}
    (hn : l.most = some n) (hdf : d.params.defaults = [])
    (call : ∀ (w : World) (s₀ s₁ : Shared) (mg mb : Str → Option Value) (fa : Addr) (o : Obj) (pm cd doc : Value) (a : Addr) (vs : List Value) (ns : List Int),
      Ground q loose [] XP w s₀ mg mb s₁.heap → YP w s₁.heap →
      s₁.heap.get? fa = some o → o.data = .func (docDef d.name d.params d.body d.scope pm cd doc) → s₁.heap.CodeRec cd d.name → mg d.name = some (.ref fa) →
      s₁.heap.get? a = some { cls := .type "list", data := .seq vs.toArray } → IntsAre vs ns → ns.length ≤ n → s₁.gens = #[] →
      codeAny (model l.prog w) callerA (.call (.ref fa) ⟨[.ref a], []⟩) (fun r s' => r = .ok (.ret (.bool true)) ∧ OldK s₁.heap s'.heap ∧ s'.os = s₁.os ∧ AllBare s'.gens) s₁) :
    WalkO q loose XP YP l.row.toRowW d [] (fun f vs => PySem.call f vs) := by
  intro w s₀ s₁ mg mb G Y fa o pm cd doc dV kV ho hd hcd hD hmg hg args vals as hpre hlay hrd hwl hlo
  obtain rfl : dV = .none := Dflts.none hD hdf
  obtain rfl : kV = .none := Dflts.noKw hD
  obtain ⟨a, vs, ns, rfl, rfl, hobj, hints, hlen⟩ := script_of hn hpre hwl
  refine enter_call (codeAny_mono (call w s₀ s₁ mg mb fa o pm cd doc a vs ns G Y ho (fd_plain hd) hcd hmg hobj hints hlen hg) fun r s' hq => ?_)
  obtain ⟨rfl, h2, h3, h4⟩ := hq
  exact ⟨.inl ⟨.bool true, .bool true, [], rfl, fun _ => rfl, .bool true, post_true l _, fun _ => ⟨List.Pairwise.nil, fun _ hm => (nomatch hm)⟩⟩, h2, h3, h4⟩


/-! ### rules over ANY heap (no ledger) from facts about the written part K: the library's own take a ledger (News) for what they write -/
section
variable {prog : Program} {w : World} {A : Around} {E : Value → Shared → Prop} {s : Shared} {K : Frag}





/-! the whole heap as the ledger: makes every rule that writes through a ledger a rule over any heap -/

end
end Att

namespace L2
open PySem PySem.Spec PyProof.Rows

theorem vals_ints : ∀ {vs : List Value} {ns : List Int}, IntsAre vs ns → Vals (ns.map V.int) vs
  | _, _, .nil => .nil
  | _, _, .cons n t h => .cons ⟨t, rfl⟩ (vals_ints h)

/-- nothing is tracked but the script, known to the object (or it is an object of the module) -/
def Only (H : Hp) : Prop := ∀ b, H b = none ∨ ∃ o xs, H b = some (.frz o (.lst xs))

/-- THE HEAD: the law's promise, at the heap behind the top. F, the promise of the law's def, may use that base is part of the heap (so K.In base, base.Ns mainGlobals mg stand in Mod) -/
theorem law_call {P : Program} {w : World} {K : PySem.W.Frag} {mg mb : Str → Option Value} {CX : CXT} {k : Nat} {fa a : Addr} {fd : FuncData} {x : Str} {sp : Sp} {s₁ : Shared} {vs : List Value} {ns : List Int}
    (KX : K.In s₁.heap) (hns : s₁.heap.Ns mainGlobals mg) (hb : s₁.heap.Ns builtinsNs mb) (hbb : ∀ x : Str, x ≠ "__name__" → mb x = bootBuiltins x) (hlim : s₁.heap.NoLimit) (hg : s₁.gens = #[])
    (ha : s₁.heap.get? a = some { cls := .type "list", data := .seq vs.toArray }) (hi : IntsAre vs ns) (hl : ns.length ≤ sizeLine) (hr : Room k callerA)
    (F : ∀ base : Heap, K.In base → base.Ns mainGlobals mg → FnOk P w K mg base CX k fa fd [x] sp) (hbind : ∀ (s : Shared) (u : Value), BindsTo s fd ⟨[u], []⟩ [(x, u)])
    (hsp : ∀ H : Hp, Only H → SqL K H a (ns.map V.int) → sp [.ref a] H (fun v _ => v = .bl true) fun _ _ _ => False)
    (hCX : ∀ H e s', CX [] H s₁ (fun _ _ _ => False) e s' → False) :
    codeAny (model P w) callerA (.call (.ref fa) ⟨[.ref a], []⟩) (fun r s' => r = .ok (.ret (.bool true)) ∧ OldK s₁.heap s'.heap ∧ s'.os = s₁.os ∧ AllBare s'.gens) s₁ := by
  have rv := vals_ints hi
  have lenV := hi.length
  -- from an abstract heap in which nothing but the script may be tracked
  have core : ∀ H : Hp, Only H → SqL K H a (ns.map V.int) → HOk P w H s₁.heap → (∀ b, H b ≠ none → b = a) → (H a ≠ none → K.lookup a = none) →
      codeAny (model P w) callerA (.call (.ref fa) ⟨[.ref a], []⟩) (fun r s' => r = .ok (.ret (.bool true)) ∧ OldK s₁.heap s'.heap ∧ s'.os = s₁.os ∧ AllBare s'.gens) s₁ := by
    intro H hO hS hok hA hK
    have base_of : ∀ {b : Addr} {o : Obj}, s₁.heap.get? b = some o → H b = none → (hidT s₁.heap H).get? b = some o := fun e n => hidT_get e n
    have noA : ∀ {b : Addr} {o : Obj} {es : Array DictEntry} {ep : Nat}, s₁.heap.get? b = some o → o.data = .dict es ep → H b = none := fun {b o es ep} e d => by
      cases q : H b with
      | none => rfl
      | some u =>
        have e' : b = a := hA b (by rw [q]; simp)
        subst e'
        rw [ha] at e; cases e
        have d' : Data.seq vs.toArray _ = Data.dict es ep := d
        cases d'
    have nsK : ∀ {b : Addr} {m : Str → Option Value}, s₁.heap.Ns b m → (hidT s₁.heap H).Ns b m := fun {b m} ⟨o, es, ep, e, d, r⟩ => ⟨o, es, ep, base_of e (noA e d), d, r⟩
    have hKb : K.In (hidT s₁.heap H) := fun b o e => base_of (KX b o e) (by
      cases q : H b with
      | none => rfl
      | some u =>
        have e' : b = a := hA b (by rw [q]; simp)
        subst e'
        rw [hK (by rw [q]; simp)] at e; cases e)
    have hM : Mod K mg (hidT s₁.heap H) := ⟨hKb, nsK hns, ⟨mb, nsK hb, hbb⟩, let ⟨mc, h1, h2⟩ := hlim; ⟨mc, nsK h1, h2⟩⟩
    have e0 : Env0 P w K mg (hidT s₁.heap H) callerA [] s₁ H := ⟨rfl, hM, fun b o e => of_hidT e, Nat.le_of_eq (hidT_size _ _), trivial, fun b hb => absurd (show b ∈ ([] : List Addr) from hb) (by simp), hok, .of_eq hg⟩
    refine codeAny_mono ((F _ hKb (nsK hns)).run callerA [] s₁ H ⟨[.ref a], []⟩ [.ref a] [.ref a] _ _ hr e0 (hbind s₁ (.ref a)) (.cons rfl .nil) (hsp H hO hS)) fun r s' h => ?_
    cases r with
    | error e => exact (hCX H e s' h).elim
    | ok fl =>
      cases fl with
      | next => exact False.elim h
      | brk => exact False.elim h
      | cont => exact False.elim h
      | ret u =>
        obtain ⟨v, H', os, bare, un, hok', r', q⟩ := h
        have q' : v = .bl true := q
        subst q'
        obtain rfl : u = Value.bool true := r'
        refine ⟨rfl, OldK.of_keep fun b o e => ?_, os, bare⟩
        cases q : H b with
        | none => exact un.keep b o e q (by intro z; exact absurd (show b ∈ ([] : List Addr) from z) (by simp)) (by simp)
        | some u =>
          rcases hO b with z | ⟨ob, xs, z⟩
          · rw [q] at z; cases z
          · have z2 := un.frzs b ob _ z
            obtain ⟨e1, _⟩ := hok b _ z
            obtain ⟨e2, _⟩ := hok' b _ z2
            rw [e] at e1; cases e1
            exact e2
  cases hk : K.lookup a with
  | some o =>
    -- the script is one of the module's own objects
    have e := KX a o hk
    rw [ha] at e
    cases e
    refine core (fun _ => none) (fun _ => .inl rfl) (.inr ⟨_, vs.toArray, _, hk, rfl, rfl, rfl, by rw [List.size_toArray, lenV]; exact hl, by simpa using rv⟩) (fun b u z => by have z' : (none : Option HO) = some u := z; cases z') (fun b z => absurd rfl z) fun z => absurd rfl z
  | none =>
    refine core (fun b => if b = a then some (.frz { cls := .type "list", data := .seq vs.toArray } (.lst (ns.map V.int))) else none) (fun b => ?_) (.inl (.inr ⟨{ cls := .type "list", data := .seq vs.toArray }, if_pos rfl⟩)) (fun b u z => ?_) (fun b z => ?_) fun _ => hk
    · by_cases hb : b = a
      · exact .inr ⟨_, _, if_pos hb⟩
      · exact .inl (if_neg hb)
    · by_cases hb : b = a
      · have z' := (if_pos hb).symm.trans z
        cases z'
        subst hb
        exact ⟨ha, by rw [List.length_map]; exact hl, vs, _, rv, ha⟩
      · have z' := (if_neg hb).symm.trans z
        cases z'
    · by_cases hb : b = a
      · exact hb
      · exact absurd (if_neg hb) z
end L2

namespace L2
open PySem PySem.Spec PyProof.Rows


/-- the goal that k_head leaves (case hc), from the law's promise. F gives the function object fd (K's own) once, then the promise over every base -/
theorem walk_of {l : PySem.W.OpenLaw} {n k : Nat} {q : Program} {loose : List Str} {XP : (Str → Option Value) → Heap → Prop} {YP : World → Heap → Prop} {d : DefRec} {K : Params → PySem.W.Frag} {CX : World → CXT} {sp : World → Sp} {x : Str}
    (hn : l.most = some n) (hn2 : n ≤ sizeLine) (hdf : d.params.defaults = []) (hr : Room k callerA)
    (hY : ∀ (w : World) (h : Heap), YP w h → (K w.params).In h)
    (F : ∀ (w : World) (mg : Str → Option Value) (fa : Addr) (h : Heap), (K w.params).In h → h.Ns mainGlobals mg → mg d.name = some (.ref fa) →
      ∃ fd : FuncData, (∀ (s : Shared) (u : Value), BindsTo s fd ⟨[u], []⟩ [(x, u)]) ∧
        ∀ base : Heap, (K w.params).In base → base.Ns mainGlobals mg → FnOk l.prog w (K w.params) mg base (CX w) k fa fd [x] (sp w))
    (hsp : ∀ (w : World) (H : Hp) (a : Addr) (ns : List Int), ns.length ≤ n → Only H → SqL (K w.params) H a (ns.map V.int) → sp w [.ref a] H (fun v _ => v = .bl true) fun _ _ _ => False)
    (hCX : ∀ (w : World) (H : Hp) (s : Shared) (e : Value) (s' : Shared), CX w [] H s (fun _ _ _ => False) e s' → False) :
    PySem.W.WalkO q loose XP YP l.row.toRowW d [] (fun f vs => PySem.call f vs) := by
  refine Att.attach_call hn hdf fun w s₀ s₁ mg mb fa o pm cd doc a vs ns G Y ho hd hcd hmg hobj hints hlen hg => ?_
  have KX := hY w _ Y
  obtain ⟨fd, hb, hF⟩ := F w mg fa _ KX G.T.g hmg
  exact law_call KX G.T.g G.T.b G.T.builtins G.T.nolimit hg hobj hints (Nat.le_trans hlen hn2) hr hF hb (fun H hO hS => hsp w H a ns hlen hO hS) fun H e s' => hCX w H s₁ e s'
end L2

/- THE LAST THEOREM (shape; LID, My.* are yours):
   My.Adr: a structure of the addresses that your layer names (classes, functions); My.Txt K t: a structure (Prop) of the equations over K;
   My.txt_mk : {K} {implicit addresses ..} (e1 : nsIn K mainGlobals "law" = some (some (.ref f))) (e2 : K.lookup f = some ⟨oc, od, .func (fnOf "law" "law" params body scope dV kV doc pm an cdv ct), sl⟩) (e3 : codeIn K cdv "law" = true) .. : ∃ t, My.Txt K t

set_option maxRecDepth 100000 in
set_option maxHeartbeats 0 in
theorem PySem.Challenge.cw_LID_holds : PySem.Challenge.rw_LID.Holds := by
  w_on; o_law; k_head; (case hw => w_witness2)
  k_fill
  refine L2.walk_of (l := PySem.Challenge.rw_LID) (n := 63) (k := 40) (x := "script") (CX := fun w => ..) (sp := fun _ => My.sp_law) rfl (by decide) rfl ⟨rfl, by decide, by decide⟩ (fun w h Y => PySem.W.kIn_of Y) ?F ?S ?C
  case F =>
    intro w mg fa h KX G hmg
    have T : ∃ t, My.Txt (L2.KOf KX) t := by
      dsimp only [L2.KOf]                          -- K must stand as «<heap const> w.params» for k_is
      refine' My.txt_mk ?e1 ?e2 ?e3 ..
      (case e1 => PySem.W.k_is)                    -- in the order: a name -> its address -> its object -> its parts
      (case e2 => PySem.W.k_is)
      ..
    obtain ⟨t, T⟩ := T
    have e0 := hmg.symm.trans (PySem.W.mg_of KX G T.law)
    cases e0                                       -- fa is the law's own address
    exact ⟨_, fun s u => .of_eq rfl, fun base kb nb => My.law_fn T kb nb⟩     -- if «.of_eq rfl» comes too early: refine' ⟨_, ?b, fun base kb nb => My.law_fn T kb nb⟩; exact fun s u => .of_eq rfl
  case S => exact fun w H a ns hl hO hS => ..
  case C => exact ..
(the tactic k_is has no namespace: write k_is) -/

/-! SHORT WORDS over the layer: a def of the text, its body, what a loop and a test want. -/
namespace L2
open PySem PySem.Spec PyProof.Rows

/-! ### the text by places -/
def defArgs (s : Stmt) : Arguments := match s with
  | .FunctionDef _ a _ _ _ _ _ _ _ _ => a
  | _ => { posonlyargs := [], args := [], vararg := none, kwonlyargs := [], kw_defaults := [], kwarg := none, defaults := [] }
def defBody (s : Stmt) : List Stmt := match s with
  | .FunctionDef _ _ b _ _ _ _ _ _ _ => b
  | _ => []
def defScope (s : Stmt) : Scope := match s with
  | .FunctionDef _ _ _ _ _ _ sc _ _ _ => sc
  | _ => { kind := .function, names := [], isGenerator := false, isCoroutine := false }

/-! ### no exception leaves a def -/
abbrev CX0 : CXT := fun _ _ _ _ _ _ => False
abbrev E0 : XK := fun _ _ _ => False
theorem pass0 {X : Cx} : Passes CX0 X E0 := fun _ _ _ _ _ _ _ h => h.elim

/-! ### a def (or method) of the text as it stands behind the top -/
structure Fun (K : PySem.W.Frag) (x qual : Str) (st : Stmt) (f : Addr) (fd : FuncData) : Prop where
  ex : ∃ (oc : Value) (od : Option Addr) (kV doc pm : Value) (an : Option Addr) (cdv ct : Value) (osl : Array (Option Value)),
    fd = PySem.W.fnOf x qual (defArgs st) (defBody st) (defScope st) .none kV doc pm an cdv ct ∧ K.lookup f = some ⟨oc, od, .func fd, osl⟩ ∧ PySem.W.codeIn K cdv qual = true
  kp : PySem.W.keepIn K (.ref f) = true
section
variable {P : Program} {w : World} {K : PySem.W.Frag} {mg : Str → Option Value} {base : Heap}
/-- THE RULE for a def: its body as a term of rules, and the reading of that term -/
theorem Fun.ok {x qual : Str} {st : Stmt} {f : Addr} {fd : FuncData} {N ps : List Str} {k : Nat} {sp : Sp} (F : Fun K x qual st f fd) (S : FnScope N ps (defScope st)) (len : ∀ vs H Q E, sp vs H Q E → vs.length = ps.length)
    (hbody : ∀ (cdv : Value) (A : Around) (outer : List Env) (s : Shared) (H : Hp) (vs : List V) (Q : VK) (E : XK), Room k (A.deeper (envOfC qual (defScope st) s.heap.objs.size f cdv)) → sp vs H Q E →
      ∃ t, PSs (cxOf CX0 P w K mg base N qual (defScope st) f cdv A outer s H E).nox (defBody st) t ∧ t { nx := fun _ H' => Q .non H', rt := Q } (start N vs) H) : FnOk P w K mg base CX0 (k + 1) f fd ps sp := by
  obtain ⟨oc, od, kV, doc, pm, an, cdv, ct, osl, rfl, lk, hcd⟩ := F.ex
  refine fn_of lk hcd S len fun A outer s H vs Q E hr hsp => ?_
  obtain ⟨t, h, q⟩ := hbody cdv A outer s H vs Q E hr hsp
  exact ⟨t, h.nox, q⟩
/-- how its arguments bind (no defaults): h is «fun _ _ _ _ _ _ us hl => match us, hl with | [_, _], _ => rfl», one _ a parameter -/
theorem Fun.binds {x qual : Str} {st : Stmt} {f : Addr} {fd : FuncData} {ps : List Str} (F : Fun K x qual st f fd)
    (h : ∀ (kV doc pm : Value) (an : Option Addr) (cdv ct : Value) (us : List Value), us.length = ps.length → bindArgs (PySem.W.fnOf x qual (defArgs st) (defBody st) (defScope st) .none kV doc pm an cdv ct) ⟨us, []⟩ = pure (ps.zip us)) : Binds K fd ps [] := by
  obtain ⟨oc, od, kV, doc, pm, an, cdv, ct, osl, rfl, lk, hcd⟩ := F.ex
  exact .all (h kV doc pm an cdv ct)
theorem fun_mk {x qual : Str} {st : Stmt} {f : Addr} {oc : Value} {od an : Option Addr} {osl : Array (Option Value)} {kV doc pm cdv ct : Value} (l : K.lookup f = some ⟨oc, od, .func (PySem.W.fnOf x qual (defArgs st) (defBody st) (defScope st) .none kV doc pm an cdv ct), osl⟩)
    (c : PySem.W.codeIn K cdv qual = true) (k : PySem.W.keepIn K (.ref f) = true) : Fun K x qual st f (PySem.W.fnOf x qual (defArgs st) (defBody st) (defScope st) .none kV doc pm an cdv ct) := ⟨⟨oc, od, kV, doc, pm, an, cdv, ct, osl, rfl, l, c⟩, k⟩
end
theorem small1000 {n : Nat} (h : n ≤ 1000) : n < sizeLine := Nat.lt_of_le_of_lt h (by decide)

/-! ### expressions in short: the name that stands in the i-th slot -/
section
variable {X : Cx}
theorem pv (i : Nat) {x : Str} {pos : Pos} (hN : X.N[i]? = some x := by rfl) (hv : Vis X.env.scope x := by first | exact Or.inl rfl | exact Or.inr (Or.inl rfl) | exact Or.inr (Or.inr rfl)) (hd : (x == ("__debug__" : Str)) = false := by decide)
    (hcd : (x == ("__classdict__" : Str)) = false := by decide) : PE X (.Name x pos) (tVar i) := pe_var hN hv hd hcd
end

/-! ### tests -/
theorem iteF {A B : Prop} (h : B) : if false = true then A else B := by
  rw [if_neg Bool.false_ne_true]
  exact h
theorem iteT {A B : Prop} (h : A) : if true = true then A else B := by
  rw [if_pos rfl]
  exact h
theorem ite2 {c A B : Prop} [Decidable c] (h1 : c → A) (h2 : ¬ c → B) : if c then A else B := by
  by_cases h : c
  · rw [if_pos h]
    exact h1 h
  · rw [if_neg h]
    exact h2 h
theorem iteNS {c A B : Prop} [Decidable c] (hc : c) (h : B) : if (!decide c) = true then A else B := by
  rw [decide_eq_true hc]
  exact iteF h

/-! ### heaps -/
/-- all that was tracked is as it was -/
def Same (H H' : Hp) : Prop := ∀ b o, H b = some o → H' b = some o
theorem Same.refl (H : Hp) : Same H H := fun _ _ h => h
theorem Same.trans {H H1 H2 : Hp} (a : Same H H1) (b : Same H1 H2) : Same H H2 := fun c o h => b c o (a c o h)
theorem Same.free {H H' : Hp} (e : Same H H') {l : Addr} (h : H' l = Option.none) : H l = Option.none := by
  cases q : H l with
  | none => rfl
  | some o =>
    rw [e l o q] at h
    cases h
theorem Same.seq {K : PySem.W.Frag} {H H' : Hp} {a : Addr} {xs : List V} (e : Same H H') (h : SqL K H a xs) : SqL K H' a xs := by
  rcases h with (h | ⟨o, h⟩) | h
  · exact .inl (.inl (e _ _ h))
  · exact .inl (.inr ⟨o, e _ _ h⟩)
  · exact .inr h

end L2

set_option Elab.async false
set_option linter.all false
set_option maxRecDepth 100000
set_option maxHeartbeats 4000000
namespace L2
open PySem PySem.Spec PyProof.Rows

/-! ### own additions: several records turn; an object comes to be tracked -/
section
variable {X : Cx} {pins : List (Addr × Obj)} {σ : St} {H H' : Hp} {s : Shared} {h' : Heap}

/-- records of ours at ch have turned -/
theorem Inv.turnedL {t' : Nat} {ch : List Addr} (I : Inv X pins σ H s) (k : ∀ b o, b ∉ ch → s.heap.get? b = some o → h'.get? b = some o) (hn : ∀ b ∈ ch, FpOk X pins H b) :
    Inv X pins σ H { s with heap := h', toks := t' } := by
  have nch : ∀ b u, H b = some u → b ∉ ch := fun b u e z => by rw [(hn b z).1] at e; cases e
  refine I.step (g' := s.gens) (d' := s.drawn) (ch := ch) (fun b hb => ?_) (fun b o _ _ hc e _ => k b o hc e) (fun b o _ _ hc e _ => ⟨o.slots, k b o hc e⟩) (fun _ _ _ _ n => n)
    (fun b o hc e => ⟨o, k b o hc e⟩) (fun _ _ e => e) (fun _ _ _ e => e) (fun b ps e => ⟨#[], by rw [e]; simp⟩) (fun m hm => ?_) (fun b u e => ?_) I.bare
  · obtain ⟨_, f1, _, f3, f4, f5⟩ := hn b hb
    exact ⟨f3, f1, f4, f5⟩
  · obtain ⟨o, es, ep, ho, r⟩ := hm
    exact ⟨o, es, ep, k _ o (fun z => (hn _ z).2.1 rfl) ho, r⟩
  · refine (I.hok b u e).stay (fun c v hc q => k c v ?_ q) (fun _ q => q) fun _ _ q => q
    rcases hc with z | z
    · rw [z]; exact nch b u e
    · exact nch c _ z

/-- an object of ours, not tracked so far, is tracked from now on -/
theorem Inv.track {a : Addr} {o : HO} (I : Inv X pins σ H s) (f : FpOk X pins H a) (hs : X.s₀.heap.objs.size ≤ a) (new : ObjOk X.prog X.w (upd H a o) s.heap a o) : Inv X pins σ (upd H a o) s := by
  obtain ⟨f0, f1, f2, _, f4, f5⟩ := f
  have low : ∀ b u, X.s₀.heap.get? b = some u → b ≠ a := fun b u e => Nat.ne_of_lt (Nat.lt_of_lt_of_le (Heap.lt_size e) hs)
  refine ⟨I.ok, I.os, I.bare, ⟨I.base.keep, I.base.slot, fun b u e n hx => ?_, I.base.there, fun b xs e => ?_, fun b u v e => ?_, fun b ps e => ?_⟩, I.loc, I.cell, ?_, fun x c e => ?_, fun p hp => ?_, fun b u e => ?_, I.len⟩
  · rw [upd_ne (low b u e)]; exact I.base.free b u e n hx
  · have q := I.base.tups b xs e
    rw [upd_ne (ne_of_none q f0)]; exact q
  · have q := I.base.frzs b u v e
    rw [upd_ne (ne_of_none q f0)]; exact q
  · obtain ⟨more, q⟩ := I.base.tbls b ps e
    exact ⟨more, by rw [upd_ne (ne_of_none q f0)]; exact q⟩
  · rw [upd_ne (Ne.symm f1)]; exact I.free
  · rw [upd_ne (f4 x c e)]; exact I.freeC x c e
  · obtain ⟨e, n, r⟩ := I.pin p hp
    exact ⟨e, by rw [upd_ne (f5 p hp)]; exact n, r⟩
  · by_cases hb : b = a
    · subst hb; rw [upd_same] at e; cases e; exact new
    · rw [upd_ne hb] at e
      exact (I.hok b u e).stay (fun c v _ q => q) (fun c q => by rw [upd_ne (ne_of_none q f0)]; exact q) fun c xs q => by rw [upd_ne (ne_of_none q f0)]; exact q
end

/-! ### zip of two lists -/
def Itz (K : PySem.W.Frag) (a b : Addr) : It :=
  ⟨fun i H => ∃ xs ys x y, SqL K H a xs ∧ SqL K H b ys ∧ xs[i]? = some x ∧ ys[i]? = some y,
   fun i H v H' => ∃ T x y, H T = none ∧ v = .ref T ∧ H' = upd H T (.tup [x, y]) ∧ (∀ xs, SqL K H a xs → xs[i]? = some x) ∧ (∀ ys, SqL K H b ys → ys[i]? = some y),
   fun i H => ∃ xs ys, SqL K H a xs ∧ SqL K H b ys ∧ (xs.length ≤ i ∨ ys.length ≤ i)⟩
theorem turn_zip {P : Program} {w : World} {K : PySem.W.Frag} {elts : List Expr} {kk : Nat} {pos : Pos} {z TI TO i1 i2 a b : Addr} (D : ZipApart z TI TO i1 i2 a b) :
    Turn P w K (.Tuple elts kk pos) (Itz K a b) [z, TI, TO, i1, i2] z
      (fun i h => IsZip h z TI TO .none ∧ IsPair h TI (.ref i1) (.ref i2) ∧ (∃ u v, IsPair h TO u v) ∧ h.IsListIter i1 a i ∧ h.IsListIter i2 b i) where
  mem := by simp
  obj := fun i h st c hc => by
    obtain ⟨hz, hTI, ⟨u, v, hTO⟩, h1, h2⟩ := st
    simp only [List.mem_cons, List.not_mem_nil, or_false] at hc
    rcases hc with rfl | rfl | rfl | rfl | rfl
    · exact ⟨_, hz, fun v z => by cases z⟩
    · exact ⟨_, hTI, fun v z => by cases z⟩
    · exact ⟨_, hTO, fun v z => by cases z⟩
    · obtain ⟨o, e, c, d⟩ := h1
      exact ⟨o, e, fun v z => by rw [d] at z; cases z⟩
    · obtain ⟨o, e, c, d⟩ := h2
      exact ⟨o, e, fun v z => by rw [d] at z; cases z⟩
  keep := fun i h h' st k => by
    obtain ⟨hz, hTI, ⟨u, v, hTO⟩, h1, h2⟩ := st
    exact ⟨k z (by simp) _ hz, k TI (by simp) _ hTI, ⟨u, v, k TO (by simp) _ hTO⟩, h1.at fun o e => k i1 (by simp) o e, h2.at fun o e => k i2 (by simp) o e⟩
  item := by
    intro X hP hw hK hc i pins s σ H E I hf st hg
    subst hP hw hK
    obtain ⟨xs, ys, x, y, hx, hy, ex, ey⟩ := hg
    obtain ⟨its, rv, p, _⟩ := I.list hx
    obtain ⟨jts, rw', p', _⟩ := I.list hy
    obtain ⟨u, hu, ru⟩ := rv.get ex
    obtain ⟨v, hv, rv2⟩ := rw'.get ey
    obtain ⟨hz, hTI, ⟨q1, q2, hTO⟩, h1, h2⟩ := st
    refine wpAny_pyNext_zip_item D hz hTI hTO h1 h2 p.isList p'.isList (x := u) (y := v) (by simpa using hu) (by simpa using hv) fun h' a1 a2 a3 a4 a5 a6 a7 => ?_
    have I1 : Inv X pins σ H { s with heap := h' } := I.turnedL (t' := s.toks) (ch := [z, TO, i1, i2]) (fun c o hc e => by
      simp only [List.mem_cons, List.not_mem_nil, or_false, not_or] at hc
      exact a7 c o hc.1 hc.2.1 hc.2.2.1 hc.2.2.2 e) (fun c hc => hf c (by
        simp only [List.mem_cons, List.not_mem_nil, or_false] at hc ⊢
        rcases hc with rfl | rfl | rfl | rfl <;> simp))
    have hT : H s.heap.objs.size = none := I.hok.fresh (Nat.le_refl _)
    have fT : FpOk X pins H s.heap.objs.size := I.fpOk (Nat.le_refl _) hT
    have I2 : Inv X pins σ (upd H s.heap.objs.size (.tup [x, y])) { s with heap := h' } :=
      I1.track fT I.sz ⟨by show 2 ≤ sizeLine; decide, [u, v], .cons ru (.cons rv2 .nil), ⟨_, a5, rfl, _, rfl⟩⟩
    have nT : ∀ c ∈ [z, TI, TO, i1, i2], c ≠ s.heap.objs.size := fun c hc e => by
      have there : ∃ o, s.heap.get? c = some o := by
        simp only [List.mem_cons, List.not_mem_nil, or_false] at hc
        rcases hc with rfl | rfl | rfl | rfl | rfl
        · exact ⟨_, hz⟩
        · exact ⟨_, hTI⟩
        · exact ⟨_, hTO⟩
        · obtain ⟨o, e, _⟩ := h1; exact ⟨o, e⟩
        · obtain ⟨o, e, _⟩ := h2; exact ⟨o, e⟩
      obtain ⟨o, ho⟩ := there
      exact absurd (Heap.lt_size ho) (by rw [e]; exact Nat.lt_irrefl _)
    have n2 : ∀ c ∈ [z, TI, TO, i1, i2], upd H s.heap.objs.size (.tup [x, y]) c = none := fun c hc => by rw [upd_ne (nT c hc)]; exact (hf c hc).1
    refine ⟨_, rfl, wpAny_letOwnedTupleGo_zip (s := { s with heap := h' }) a1 fun h2' hz' hs' => ?_⟩
    have fz : FpOk X pins (upd H s.heap.objs.size (.tup [x, y])) z := ⟨n2 z (by simp), (hf z (by simp)).2⟩
    have I3 : Inv X pins σ (upd H s.heap.objs.size (.tup [x, y])) { s with heap := h2' } := Inv.turned (s := { s with heap := h' }) (h' := h2') (t' := s.toks) (it := z) I2 (fun c o hc e => (hs'.2 c hc).trans e) fz.1 fz.2.1 fz.2.2.2.1 fz.2.2.2.2.1 fz.2.2.2.2.2
    have sTI : IsPair h' TI (.ref i1) (.ref i2) := a7 _ _ D.TIz D.TITO D.TIi1 D.TIi2 hTI
    refine ⟨.ref s.heap.objs.size, _, I3, rfl, ⟨_, x, y, hT, rfl, rfl, fun zs hzs => ?_, fun zs hzs => ?_⟩, ⟨hz', hs'.extBut _ _ D.TIz sTI, ⟨_, _, hs'.extBut _ _ D.TOz a2⟩, a3.extBut hs'.extBut D.i1z, a4.extBut hs'.extBut D.i2z⟩, n2⟩
    · rw [I.list_inj hzs hx]; exact ex
    · rw [I.list_inj hzs hy]; exact ey
  done := by
    intro X hP hw hK hc i pins s σ H E I hf st hg
    subst hP hw hK
    obtain ⟨xs, ys, hx, hy, hend⟩ := hg
    obtain ⟨its, rv, p, _⟩ := I.list hx
    obtain ⟨jts, rw', p', _⟩ := I.list hy
    obtain ⟨hz, hTI, ⟨q1, q2, hTO⟩, h1, h2⟩ := st
    have l1 := rv.length
    have l2 := rw'.length
    refine wpAny_pyNext_zip_end (I.ok.hd hc) D hz hTI hTO h1 h2 p.isList p'.isList ?_ fun h' a7 => ⟨rfl, ?_⟩
    · rcases hend with e | e
      · exact .inl (by simp; omega)
      · exact .inr (by simp; omega)
    · exact I.turnedL (t' := s.toks) (ch := [z, TO, i1, i2]) (fun c o hc e => by
        simp only [List.mem_cons, List.not_mem_nil, or_false, not_or] at hc
        exact a7 c o hc.1 hc.2.1 hc.2.2.1 hc.2.2.2 e) (fun c hc => hf c (by
          simp only [List.mem_cons, List.not_mem_nil, or_false] at hc ⊢
          rcases hc with rfl | rfl | rfl | rfl <;> simp))
  self := fun _ _ _ _ _ st h => wpAny_pyIter_zip st.1 h

section
variable {X : Cx}
def iZip (K : PySem.W.Frag) (ta : TA) : TI := fun σ H R => ta σ H fun vs H1 => ∃ a b, vs = [.ref a, .ref b] ∧ (∃ xs, SqL K H1 a xs) ∧ (∃ ys, SqL K H1 b ys) ∧ R (Itz K a b) H1
theorem pi_zip {elts : List Expr} {kk : Nat} {tpos : Pos} {a b : Expr} {ta : TA} {p pos : Pos} (hg : Gl X "zip") (hm : X.mg "zip" = none) (ha : PA X [a, b] ta) (hs : starEach [a, b] X.env = [(false, eval a X.env), (false, eval b X.env)] := by rfl) (hs2 : starEach [b] X.env = [(false, eval b X.env)] := by rfl) :
    PI X (.Tuple elts kk tpos) (.Call (.Name "zip" p) [a, b] [] pos) (iZip X.K ta) := by
  intro pins s σ H R I h
  refine Call_ (ld_blt I hg hm boot_zip (PyProof.Rows.callWith_type1 (thn (ha pos pins s σ H _ I h) fun us s1 ⟨vs, H1, I1, r1, q1⟩ => ?_) (by rw [hs, hs2]) (by rw [hs2]; rfl)))
  obtain ⟨la, lb, e, ⟨xs, hx⟩, ⟨ys, hy⟩, q⟩ := q1
  subst e
  cases r1 with
  | cons r rr =>
    cases rr with
    | cons r' rr =>
      cases rr
      cases r
      cases r'
      obtain ⟨its, rv, pl, _⟩ := I1.list hx
      obtain ⟨jts, rw', pl', _⟩ := I1.list hy
      have la' : la < s1.heap.objs.size := by obtain ⟨o, e, _⟩ := pl.isList; exact Heap.lt_size e
      have lb' : lb < s1.heap.objs.size := by obtain ⟨o, e, _⟩ := pl'.isList; exact Heap.lt_size e
      refine call_zip_2 pl.isList pl'.isList fun h' hz hTI hTO hi1 hi2 hsz hk => ?_
      refine wpAny_pyIter_zip hz ?_
      refine ⟨_, [s1.heap.objs.size + 4, s1.heap.objs.size + 2, s1.heap.objs.size + 3, s1.heap.objs.size, s1.heap.objs.size + 1], _, _, H1, rfl, I1.kept (t' := s1.toks) hk, turn_zip (z := s1.heap.objs.size + 4) (TI := s1.heap.objs.size + 2) (TO := s1.heap.objs.size + 3) (i1 := s1.heap.objs.size) (i2 := s1.heap.objs.size + 1) (a := la) (b := lb) (zipApart_new la' lb'), ⟨hz, hTI, ⟨_, _, hTO⟩, hi1, hi2⟩, fun c hc => ?_, q⟩
      · have hle : s1.heap.objs.size ≤ c := by
          simp only [List.mem_cons, List.not_mem_nil, or_false] at hc
          rcases hc with rfl | rfl | rfl | rfl | rfl
          · exact Nat.le_add_right _ _
          · exact Nat.le_add_right _ _
          · exact Nat.le_add_right _ _
          · exact Nat.le_refl _
          · exact Nat.le_add_right _ _
        exact I1.fpOk hle (I1.hok.fresh hle)
end
/-- over two lists that the body leaves as they are -/
theorem for_zip {K : PySem.W.Frag} {a b : Addr} {xs ys : List V} {g : TG} {tb : TS} {D : Ends} {σ : St} {H : Hp} (Pv : Nat → St → Hp → Prop) (hlen : xs.length = ys.length) (h0 : Pv 0 σ H) (hl : ∀ i σ H, i ≤ xs.length → Pv i σ H → SqL K H a xs ∧ SqL K H b ys)
    (hs : ∀ i x y σ H T, xs[i]? = some x → ys[i]? = some y → Pv i σ H → H T = none → g (.ref T) σ (upd H T (.tup [x, y])) fun σ2 H2 => tb { D with nx := Pv (i + 1), ct := Pv (i + 1), bk := D.nx } σ2 H2) (hd : ∀ σ H, Pv xs.length σ H → D.nx σ H) :
    ∃ W : Nat → Nat → St → Hp → Prop, (∃ m, W 0 m σ H) ∧ ∀ i m σ H, W i m σ H →
      ((Itz K a b).stop i H ∧ D.nx σ H) ∨ ((Itz K a b).go i H ∧ ∃ N : St → Hp → Prop, (∀ σ' H', N σ' H' → ∃ m', m' < m ∧ W (i + 1) m' σ' H') ∧ ∀ x H', (Itz K a b).yld i H x H' → g x σ H' fun σ2 H2 => tb { D with nx := N, ct := N, bk := D.nx } σ2 H2) := by
  refine ⟨fun i m σ H => m = xs.length - i ∧ i ≤ xs.length ∧ Pv i σ H, ⟨xs.length, by simp, Nat.zero_le _, h0⟩, ?_⟩
  rintro i m σ H ⟨rfl, hi, p⟩
  obtain ⟨qa, qb⟩ := hl i σ H hi p
  by_cases hlt : i < xs.length
  · have hlt' : i < ys.length := by omega
    refine .inr ⟨⟨xs, ys, xs[i], ys[i], qa, qb, by simp [hlt], by simp [hlt']⟩, Pv (i + 1), fun σ' H' p' => ⟨xs.length - (i + 1), by omega, rfl, hlt, p'⟩, fun v H' y => ?_⟩
    obtain ⟨T, x, y, hT, rfl, rfl, ex, ey⟩ := y
    exact hs i x y σ H T (ex xs qa) (ey ys qb) p hT
  · have e : i = xs.length := by omega
    subst e
    exact .inl ⟨⟨xs, ys, qa, qb, .inl (Nat.le_refl _)⟩, hd σ H p⟩
end L2
namespace L2
open PySem PySem.Spec PyProof.Rows

/-! ### a list comprehension -/
/-- what a block captures: a cell of the frame around it -/
def clOf (scope : Scope) (env : Env) : List (Str × Addr) := ((scope.names.filter fun y => y.2 == .free).map fun y => (y.1, (env.cells.lookup y.1).getD 0)).reverse
def freesIn (scope : Scope) (env : Env) : Bool := scope.names.all fun y => !(y.2 == .free) || (env.kindOf y.1 == some .cell || env.kindOf y.1 == some .free)
theorem closure_eq {scope : Scope} {env : Env} (h : ∀ y ∈ scope.names, y.2 = .free → ∃ c, env.cells.lookup y.1 = some c) : closureFor scope env = pure (clOf scope env) := by
  have go : ∀ (ns : List (Str × NameKind)) (acc : List (Str × Addr)), (∀ y ∈ ns, y.2 = .free → ∃ c, env.cells.lookup y.1 = some c) →
      (forIn ns acc fun (x : Str × NameKind) (r : List (Str × Addr)) => if (x.2 == NameKind.free) = true then cellOf env x.1 >>= fun a => pure (ForInStep.yield ((x.1, a) :: r)) else pure (ForInStep.yield r) : Sem (List (Str × Addr))) =
      pure (((ns.filter fun y => y.2 == .free).map fun y => (y.1, (env.cells.lookup y.1).getD 0)).reverse ++ acc) := by
    intro ns
    induction ns with
    | nil => intro acc _; rfl
    | cons y r ih =>
      intro acc hy
      have hr : ∀ z ∈ r, z.2 = .free → ∃ c, env.cells.lookup z.1 = some c := fun z hz => hy z (List.mem_cons_of_mem _ hz)
      rw [List.forIn_cons]
      by_cases hk : y.2 = .free
      · obtain ⟨c, hc⟩ := hy y List.mem_cons_self hk
        have hb : (y.2 == NameKind.free) = true := by rw [hk]; rfl
        have hcell : cellOf env y.1 = pure c := by unfold cellOf; rw [hc]
        simp only [hb, if_true, hcell, pure_bind]
        rw [ih _ hr, List.filter_cons, if_pos hb, List.map_cons, List.reverse_cons, hc]
        simp
      · have hb : (y.2 == NameKind.free) = false := by simpa using hk
        simp only [hb, Bool.false_eq_true, if_false, pure_bind]
        rw [ih _ hr, List.filter_cons, if_neg (by simp [hb])]
  have e : closureFor scope env = (forIn scope.names [] fun (x : Str × NameKind) (r : List (Str × Addr)) => if (x.2 == NameKind.free) = true then cellOf env x.1 >>= fun a => pure (ForInStep.yield ((x.1, a) :: r)) else pure (ForInStep.yield r) : Sem (List (Str × Addr))) := by
    simp only [closureFor, bind_pure]
  rw [e, go scope.names [] h, List.append_nil]
  rfl
theorem clOf_val {scope : Scope} {env : Env} {x : Str} {c : Addr} (h : ∀ y ∈ scope.names, y.2 = .free → ∃ c, env.cells.lookup y.1 = some c) (e : (clOf scope env).lookup x = some c) : env.cells.lookup x = some c := by
  have m := PySem.mem_of_lookup e
  unfold clOf at m
  rw [List.mem_reverse, List.mem_map] at m
  obtain ⟨y, hy, e2⟩ := m
  obtain ⟨hy1, hy2⟩ := List.mem_filter.mp hy
  obtain ⟨c', hc'⟩ := h y hy1 (by simpa using hy2)
  cases e2
  rw [hc']; rfl
theorem lookup_of_mem {α : Type} : ∀ {l : List (Str × α)} {x : Str} {a : α}, (x, a) ∈ l → ∃ b, l.lookup x = some b
  | [], _, _, h => by cases h
  | (y, b) :: r, x, a, h => by
    by_cases e : x = y
    · subst e; exact ⟨b, by simp [List.lookup_cons]⟩
    · have hb : (x == y) = false := by simpa using e
      rcases List.mem_cons.mp h with q | q
      · cases q; exact absurd rfl e
      · obtain ⟨b', q'⟩ := lookup_of_mem q
        exact ⟨b', by simp [List.lookup_cons, hb, q']⟩
theorem clOf_has {scope : Scope} {env : Env} {x : Str} (h : scope.names.lookup x = some .free) : ∃ c, (clOf scope env).lookup x = some c := by
  have m := PySem.mem_of_lookup h
  refine lookup_of_mem (a := (env.cells.lookup x).getD 0) ?_
  unfold clOf
  rw [List.mem_reverse, List.mem_map]
  exact ⟨(x, .free), List.mem_filter.mpr ⟨m, rfl⟩, rfl⟩
/-- a kind in the block that is cell or free is free in its scope -/
theorem relabel_free {scope : Scope} {env : Env} (hcell : ∀ y ∈ scope.names, y.2 ≠ .cell) {x : Str} (h : (relabel scope env).names.lookup x = some .cell ∨ (relabel scope env).names.lookup x = some .free) : scope.names.lookup x = some .free := by
  have go : ∀ (ns : List (Str × NameKind)), (∀ y ∈ ns, y.2 ≠ .cell) → ∀ k, (k = .cell ∨ k = .free) →
      (ns.map fun (n, k) => if (k == NameKind.free && env.scope.kind == .function && env.kindOf n == some .cell) then (n, NameKind.cell) else (n, k)).lookup x = some k → ns.lookup x = some .free := by
    intro ns
    induction ns with
    | nil => intro _ k _ e; cases e
    | cons y r ih =>
      intro hy k hk e
      obtain ⟨n, kn⟩ := y
      have hr : ∀ z ∈ r, z.2 ≠ .cell := fun z hz => hy z (List.mem_cons_of_mem _ hz)
      have hnk : kn ≠ .cell := hy (n, kn) List.mem_cons_self
      rw [List.map_cons] at e
      by_cases hx : x = n
      · subst hx
        simp only [List.lookup_cons, beq_self_eq_true]
        by_cases hc : (kn == NameKind.free && env.scope.kind == .function && env.kindOf x == some .cell) = true
        · have : kn = .free := by
            have := (Bool.and_eq_true _ _).mp ((Bool.and_eq_true _ _).mp hc).1
            simpa using this.1
          rw [this]
        · simp only [if_neg hc, List.lookup_cons, beq_self_eq_true] at e
          cases e
          rcases hk with z | z
          · exact absurd z hnk
          · rw [z]
      · have hb : (x == n) = false := by simpa using hx
        simp only [List.lookup_cons, hb]
        refine ih hr k hk ?_
        by_cases hc : (kn == NameKind.free && env.scope.kind == .function && env.kindOf n == some .cell) = true
        · simp only [if_pos hc, List.lookup_cons, hb] at e; exact e
        · simp only [if_neg hc, List.lookup_cons, hb] at e; exact e
  rcases h with h | h
  · exact go _ hcell _ (.inl rfl) h
  · exact go _ hcell _ (.inr rfl) h

/-- a name that is free in the scope is a cell or free in the block -/
theorem lookup_relabel_free {scope : Scope} {env : Env} {x : Str} (h : scope.names.lookup x = some .free) : (relabel scope env).names.lookup x = some .cell ∨ (relabel scope env).names.lookup x = some .free := by
  have go : ∀ (ns : List (Str × NameKind)), ns.lookup x = some .free →
      (ns.map fun (n, k) => if (k == NameKind.free && env.scope.kind == .function && env.kindOf n == some .cell) then (n, NameKind.cell) else (n, k)).lookup x = some .cell ∨
      (ns.map fun (n, k) => if (k == NameKind.free && env.scope.kind == .function && env.kindOf n == some .cell) then (n, NameKind.cell) else (n, k)).lookup x = some .free := by
    intro ns
    induction ns with
    | nil => intro e; cases e
    | cons y r ih =>
      intro e
      obtain ⟨n, kn⟩ := y
      rw [List.map_cons]
      by_cases hx : x = n
      · subst hx
        simp only [List.lookup_cons, beq_self_eq_true] at e
        cases e
        by_cases hc : (NameKind.free == NameKind.free && env.scope.kind == .function && env.kindOf x == some .cell) = true
        · left
          show List.lookup x ((if (NameKind.free == NameKind.free && env.scope.kind == .function && env.kindOf x == some .cell) = true then (x, NameKind.cell) else (x, NameKind.free)) :: _) = _
          rw [if_pos hc]; simp only [List.lookup_cons, beq_self_eq_true]
        · right
          show List.lookup x ((if (NameKind.free == NameKind.free && env.scope.kind == .function && env.kindOf x == some .cell) = true then (x, NameKind.cell) else (x, NameKind.free)) :: _) = _
          rw [if_neg hc]; simp only [List.lookup_cons, beq_self_eq_true]
      · have hb : (x == n) = false := by simpa using hx
        simp only [List.lookup_cons, hb] at e
        have q := ih e
        by_cases hc : (kn == NameKind.free && env.scope.kind == .function && env.kindOf n == some .cell) = true
        · simp only [if_pos hc, List.lookup_cons, hb]; exact q
        · simp only [if_neg hc, List.lookup_cons, hb]; exact q
  exact go _ h

/-- the block's context -/
def Cx.blk (X : Cx) (N : List Str) (scope : Scope) (C : Addr) (s₀ : Shared) (H₀ : Hp) (ex : List Addr) : Cx where
  prog := X.prog
  w := X.w
  K := X.K
  mg := X.mg
  base := X.base
  A := X.A
  N := N
  s₀ := s₀
  H₀ := H₀
  env := compEnvC scope (clOf scope X.env) C X.env
  outer := X.stack
  stack := X.stack
  ex := ex
  fn := fun _ => false
  calm := X.calm
  pn := []
  xe := fun _ _ => False
/-- the values at a turn's start: own names unknown, then those that are captured (places js of the frame around) -/
def blkSt (n : Nat) (js : List Nat) (σ : St) : St := List.replicate n none ++ js.map fun j => (σ[j]?).join
/-- what is known in the one is known in the other -/
def stSub : St → St → Prop
  | [], [] => True
  | none :: r, _ :: r' => stSub r r'
  | some v :: r, w :: r' => w = some v ∧ stSub r r'
  | _, _ => False
theorem stSub.len : ∀ {a b : St}, stSub a b → b.length = a.length
  | [], [], _ => rfl
  | none :: r, _ :: r', h => by rw [List.length_cons, List.length_cons, stSub.len (a := r) (b := r') h]
  | some v :: r, w :: r', h => by rw [List.length_cons, List.length_cons, stSub.len (a := r) (b := r') h.2]
  | [], _ :: _, h => h.elim
  | none :: _, [], h => h.elim
  | some _ :: _, [], h => h.elim
theorem stSub.get : ∀ {a b : St}, stSub a b → ∀ (i : Nat) v, a[i]? = some (some v) → b[i]? = some (some v)
  | [], [], _, i, v, e => e
  | none :: r, _ :: r', h, 0, v, e => by simp at e
  | none :: r, _ :: r', h, i + 1, v, e => by simpa using stSub.get (a := r) (b := r') h i v (by simpa using e)
  | some u :: r, w :: r', h, 0, v, e => by simp at e; subst e; simpa using h.1
  | some u :: r, w :: r', h, i + 1, v, e => by simpa using stSub.get (a := r) (b := r') h.2 i v (by simpa using e)
  | [], _ :: _, h, _, _, _ => h.elim
  | none :: _, [], h, _, _, _ => h.elim
  | some _ :: _, [], h, _, _, _ => h.elim
/-- the tests of a comprehension -/
def PIf (X : Cx) (ifs : List Expr) (t : TT) : Prop :=
  ∀ (pins : List (Addr × Obj)) (s : Shared) (σ : St) (H : Hp) (Q : Bool → Hp → Prop), Inv X pins σ H s → t σ H Q →
    wpAny (model X.prog X.w) X.A (forIn ifs true fun c r => if r = true then do let ok ← isTrue c X.env (eval c X.env); pure (ForInStep.yield ok) else pure (ForInStep.yield r)) (TP X pins σ Q) X.xe s
def tYes : TT := fun _ H Q => Q true H
theorem pif_nil {X : Cx} : PIf X [] tYes := fun _ _ _ H _ I h => wpAny_tests_nil ⟨H, I, h⟩
theorem pif_one {X : Cx} {c : Expr} {t : TT} (h : PT X c t) : PIf X [c] t := fun pins s σ H Q I hw => wpAny_tests_one (h pins s σ H Q I hw)

section
variable {prog : Program} {w : World} {A : Around} {R : Result → Shared → Prop} {s : Shared}
theorem codeAny_compLoop_own {elt target iter : Expr} {ifs : List Expr} {scope : Scope} {pos : Pos} {it acc : Value} {env : Env} (I : Nat → Shared → Prop)
    (turn : ∀ n s, I n s → wpAny (model prog w) A (pyNext it) (fun r s₁ => match r with
      | none => R (.ok .next) s₁
      | some v => wpAny (model prog w) A (letOwnedTupleGo target it v) (fun _ s₁' => wpAny (model prog w) A (assign target env v) (fun _ s₂ =>
          wpAny (model prog w) A (forIn ifs true fun c r => if r = true then do let ok ← isTrue c env (eval c env); pure (ForInStep.yield ok) else pure (ForInStep.yield r)) (fun ok s₃ =>
            if ok = true then wpAny (model prog w) A (eval elt env) (fun x s₄ =>
              wpAny (model prog w) A (call (.builtin "list.append") [acc, x]) (fun _ s₅ => ∃ m, m < n ∧ I m s₅) (fun _ _ => False) s₄) (fun _ _ => False) s₃
            else ∃ m, m < n ∧ I m s₃) (fun _ _ => False) s₂) (fun _ _ => False) s₁') (fun _ _ => False) s₁) (fun _ _ => False) s)
    (n : Nat) (h : I n s) :
    codeAny (model prog w) A (.compLoop (.ListComp elt [⟨target, iter, ifs, 0⟩] scope pos) 0 it acc env) R s := by
  refine codeAny_loop rfl I (fun n s hI => ?_) n h
  show wpAny _ A ((compTurn (.ListComp elt [⟨target, iter, ifs, 0⟩] scope pos) 0 it acc env).onRaise (fun x => do noteFrame x env; theTreesLotGoes x)) _ _ s
  refine wpAny_noted ?_
  rw [compTurn_list]
  refine wpAny_bind (wpAny_standAt (wpAny_bind (wpAny_mono (turn n s hI) (fun r s₁ h₁ => ?_) fun _ _ f => f.elim)))
  cases r with
  | none => exact wpAny_pure h₁
  | some v =>
    refine wpAny_bind (wpAny_mono h₁ (fun _ s₁' h₁' => ?_) fun _ _ f => f.elim)
    refine wpAny_bind (wpAny_mono h₁' (fun _ s₂ h₂ => wpAny_bind (wpAny_mono h₂ (fun ok s₃ h₃ => ?_) fun _ _ f => f.elim)) fun _ _ f => f.elim)
    cases ok with
    | false => exact wpAny_pure ⟨rfl, h₃⟩
    | true =>
      exact wpAny_bind (wpAny_bind (wpAny_mono h₃ (fun x s₄ h₄ => wpAny_bind (wpAny_mono h₄ (fun _ s₅ h₅ => wpAny_pure (wpAny_pure ⟨rfl, h₅⟩)) fun _ _ f => f.elim)) fun _ _ f => f.elim))
end

/-- a comprehension's reading -/
def tComp (n : Nat) (js : List Nat) (wi : TI) (g : TG) (tf : TT) (te : TE) : TE := fun σ H Q => wi σ H fun J H1 => ∀ D, H1 D = none → ∃ W : Nat → Nat → List V → Hp → Prop, (∃ m, W 0 m [] (upd H1 D (.lst []))) ∧
  ∀ i m ys H, W i m ys H → (J.stop i H ∧ Q (.ref D) H) ∨ (J.go i H ∧ ∀ x H', J.yld i H x H' → g x (blkSt n js σ) H' fun σ2 H2 => stSub (blkSt n js σ) σ2 ∧
    tf σ2 H2 fun b H3 => if b = true then te σ2 H3 fun y H4 => H4 D = some (.lst ys) ∧ ys.length < sizeLine ∧ ∃ m', m' < m ∧ W (i + 1) m' (ys ++ [y]) (upd H4 D (.lst (ys ++ [y])))
      else ∃ m', m' < m ∧ W (i + 1) m' ys H3)

/-- what the text must have for a comprehension over the frame X: names = own names, then the captured ones (at places js of X's) -/
structure BlkOk (X : Cx) (scope : Scope) (own caps : List Str) (js : List Nat) : Prop where
  kind : scope.kind = .function
  names : ∀ y ∈ scope.names, y.2 = .local → scope.names.lookup y.1 = some .local
  nocell : ∀ y ∈ scope.names, y.2 ≠ .cell
  frees : freesIn scope X.env = true
  len : js.length = caps.length
  cap : ∀ (k j : Nat) (y : Str), js[k]? = some j → caps[k]? = some y → X.N[j]? = some y ∧ scope.names.lookup y = some .free ∧ Vis X.env.scope y
  noown : ∀ (k : Nat) (y : Str), own[k]? = some y → True

section
variable {X : Cx} {elt iter tgt : Expr} {ifs : List Expr} {scope : Scope} {pos : Pos} {own caps : List Str} {js : List Nat} {wi : TI} {g : TG} {tf : TT} {te : TE}

theorem BlkOk.hfree (B : BlkOk X scope own caps js) (ok : X.Ok) : ∀ y ∈ scope.names, y.2 = .free → ∃ c, X.env.cells.lookup y.1 = some c := fun y hy hk => by
  have h := List.all_eq_true.mp B.frees y hy
  rw [hk] at h
  have h' : (X.env.kindOf y.1 == some .cell || X.env.kindOf y.1 == some .free) = true := by simpa using h
  refine ok.has y.1 ?_
  rcases (Bool.or_eq_true _ _).mp h' with z | z
  · exact .inl (by simpa using z)
  · exact .inr (by simpa using z)

/-- the block, from the iterator on: acc and the frame are made, the loop is run; then (behind the last turn) what is wanted: u may still store -/
theorem comp_block {pins : List (Addr × Obj)} {σ : St} {H2 : Hp} {s2 : Shared} {it : Addr} {fp : List Addr} {tn : Nat → Heap → Prop} {J : It} {Q : VK} {RR : Value → Addr → Result → Shared → Prop}
    (B : BlkOk X scope own caps js) (hc : X.calm = true) (hg : ∀ C s₀ H₀ ex, PG (X.blk (own ++ caps) scope C s₀ H₀ ex) tgt g) (hf : ∀ C s₀ H₀ ex, PIf (X.blk (own ++ caps) scope C s₀ H₀ ex) ifs tf) (he : ∀ C s₀ H₀ ex, PE (X.blk (own ++ caps) scope C s₀ H₀ ex) elt te)
    (I2 : Inv X pins σ H2 s2) (T : Turn X.prog X.w X.K tgt J fp it tn) (st : tn 0 s2.heap) (hfp : ∀ b ∈ fp, FpOk X pins H2 b)
    (hw : ∀ D, H2 D = none → ∃ W : Nat → Nat → List V → Hp → Prop, (∃ m, W 0 m [] (upd H2 D (.lst []))) ∧
      ∀ i m ys H, W i m ys H → (J.stop i H ∧ Q (.ref D) H) ∨ (J.go i H ∧ ∀ x H', J.yld i H x H' → g x (blkSt own.length js σ) H' fun σ2 H2 => stSub (blkSt own.length js σ) σ2 ∧
        tf σ2 H2 fun b H3 => if b = true then te σ2 H3 fun y H4 => H4 D = some (.lst ys) ∧ ys.length < sizeLine ∧ ∃ m', m' < m ∧ W (i + 1) m' (ys ++ [y]) (upd H4 D (.lst (ys ++ [y])))
          else ∃ m', m' < m ∧ W (i + 1) m' ys H3))
    (hRR : ∀ D C m s' H', Inv X pins σ H' s' → s'.heap.Ns C m → FpOk X pins H' C → Q (.ref D) H' → RR (.ref D) C (.ok .next) s') :
    wpAny (model X.prog X.w) X.A (newList []) (fun acc s₃ => wpAny (model X.prog X.w) X.A (newFunctionEnv scope X.env.globals (clOf scope X.env) [] X.env.qual none .none (some X.env)) (fun cenv s₄ =>
      codeAny (model X.prog X.w) X.A (.compStart (.ListComp elt [⟨tgt, iter, ifs, 0⟩] scope pos) 0 (.ref it) acc { cenv with scope := relabel scope X.env }) (RR acc cenv.locals) s₄) X.xe s₃) X.xe s2 := by
  obtain ⟨W, ⟨m0, w0⟩, step⟩ := hw s2.heap.objs.size I2.fresh
  refine wpAny_newObj_type (wpAny_newFunctionEnv B.nocell (by intro y hy; simp at hy) (fun h₁ hns₁ hsb₁ => ?_) B.kind)
  dsimp only at hns₁ hsb₁ ⊢
  -- D: the list, C: the block's frame
  have I3 : Inv X pins σ (upd H2 s2.heap.objs.size (.lst [])) { s2 with heap := s2.heap.push { cls := .type "list", dict := none, data := .seq ([] : List Value).toArray }, toks := s2.toks } := I2.lnew (its := []) .nil (Nat.zero_le _)
  generalize hS3 : ({ s2 with heap := s2.heap.push { cls := .type "list", dict := none, data := .seq ([] : List Value).toArray }, toks := s2.toks } : Shared) = s3 at I3
  have hH3 : s2.heap.push { cls := .type "list", dict := none, data := .seq ([] : List Value).toArray } = s3.heap := by rw [← hS3]
  have ho3 : s3.os = s2.os := by rw [← hS3]
  have hg3 : s3.gens = s2.gens := by rw [← hS3]
  rw [hH3] at hns₁ hsb₁ ⊢
  have hD3 : s2.heap.objs.size < s3.heap.objs.size := by rw [← hH3, Heap.size_push]; exact Nat.lt_succ_self _
  generalize hDD : s2.heap.objs.size = D at *
  generalize hCC : s3.heap.objs.size = C at *
  have hT : ∀ b ∈ fp, b < D := fun b hb => by
    obtain ⟨o, e, _⟩ := T.obj 0 _ st b hb
    rw [← hDD]; exact Heap.lt_size e
  have k32 : ∀ b o, s2.heap.get? b = some o → s3.heap.get? b = some o := fun b o e => by rw [← hH3]; exact Heap.get?_push_of_some _ e
  have k4 : ∀ b o, s3.heap.get? b = some o → h₁.get? b = some o := fun b o e => (hsb₁.2 b (by rw [← hCC]; exact Nat.ne_of_lt (Heap.lt_size e))).trans (Heap.get?_push_of_some _ e)
  have f3 : ∀ b ∈ fp, FpOk X pins (upd H2 D (.lst [])) b := fun b hb => ⟨by rw [upd_ne (Nat.ne_of_lt (hT b hb))]; exact (hfp b hb).1, (hfp b hb).2⟩
  have hfr := B.hfree I3.ok
  -- the block's context
  generalize hY : X.blk (own ++ caps) scope C s3 (upd H2 D (.lst [])) fp = Y
  have hYenv : Y.env = compEnvC scope (clOf scope X.env) C X.env := by rw [← hY]; rfl
  have IY : Inv Y [] (blkSt own.length js σ) (upd H2 D (.lst [])) { s3 with heap := h₁, toks := s2.toks + ([] : List (Str × Value)).length } := by
    subst hY
    refine ⟨⟨I3.ok.mod, B.kind, I3.ok.glob, I3.ok.blt, (by show s3.heap.objs.size ≤ C; rw [hCC]; exact Nat.le_refl _), fun x y c h1 h2 => ?_, fun x hx => ?_, fun x c hx _ => (Bool.false_ne_true hx).elim, I3.ok.hd, I3.ok.frames, .inl rfl, fun b hb => ⟨?_, fun x c e z => ?_⟩, I3.bs, Nat.le_trans I3.ok.bsz I3.sz, fun b o e hb => ?_, fun b hb z => ?_, I3.stack, I3.stkFree⟩,
      rfl, I3.bare, Un.kept k4, ⟨_, hns₁, fun i x v e1 e2 e3 => ?_⟩, fun x c e => ?_, ?_, fun x c e => ?_, fun p hp => absurd (show p ∈ ([] : List (Addr × Obj)) from hp) (by simp), I3.hok.kept k4, ?_⟩
    · exact I3.ok.inj x y c (clOf_val hfr h1) (clOf_val hfr h2)
    · exact clOf_has (relabel_free B.nocell hx)
    · exact Nat.ne_of_lt (Nat.lt_trans (hT b hb) hD3)
    · exact (hfp b hb).2.2.2.2.1 x c (clOf_val hfr e) z
    · rcases (hfp b hb).2.2.2.1 with z | z
      · exact I3.ok.noex b o e z
      · exact absurd (Nat.lt_of_lt_of_le (Heap.lt_size e) (Nat.le_trans I3.ok.bsz z)) (Nat.lt_irrefl _)
    · rcases List.mem_cons.mp (I3.stkSub b z) with e | e
      · exact (hfp b hb).2.1 e
      · exact (hfp b hb).2.2.1 e
    · have e2' : (blkSt own.length js σ)[i]? = some (some v) := e2
      have e1' : (own ++ caps)[i]? = some x := e1
      unfold blkSt at e2'
      by_cases hi : i < own.length
      · rw [List.getElem?_append_left (by simpa using hi), List.getElem?_replicate] at e2'
        split at e2' <;> simp at e2'
      · rw [List.getElem?_append_right (by simpa using hi), List.getElem?_map, List.length_replicate] at e2'
        rw [List.getElem?_append_right (by omega)] at e1'
        cases hj : js[i - own.length]? with
        | none => rw [hj] at e2'; simp at e2'
        | some j =>
          rw [hj] at e2'
          have e2'' : (σ[j]?).join = some v := by simpa using e2'
          have hσ : σ[j]? = some (some v) := by
            cases q : σ[j]? with
            | none => rw [q] at e2''; simp at e2''
            | some w => rw [q] at e2''; simp at e2''; rw [e2'']
          obtain ⟨c1, c2, c3⟩ := B.cap _ j x hj e1'
          obtain ⟨m, hn, hl⟩ := I3.loc
          obtain ⟨u, ru, lk⟩ := hl j x v c1 hσ c3
          obtain ⟨c, hcl⟩ := clOf_has (env := X.env) c2
          have hx := clOf_val hfr hcl
          refine ⟨u, ru, .inr ⟨?_, c, hcl, ?_⟩⟩
          · have q := e3
            rcases q with q | q | q
            · exact absurd q (by
                intro q
                have q' : (relabel scope X.env).names.lookup x = some .local := q
                have := lookup_relabel_free (env := X.env) c2
                rcases this with z | z <;> rw [z] at q' <;> cases q')
            · exact .inl q
            · exact .inr q
          · have fr := List.all_eq_true.mp B.frees _ (PySem.mem_of_lookup c2)
            rcases lk with ⟨k, _⟩ | ⟨_, c', hc', z⟩
            · have : (X.env.kindOf x == some .cell || X.env.kindOf x == some .free) = true := by simpa using fr
              rw [k] at this; simp at this
            · rw [hx] at hc'; cases hc'
              obtain ⟨o, ho, hd⟩ := z
              exact ⟨o, k4 _ _ ho, hd⟩
    · obtain ⟨v, o, ho, hd⟩ := I3.cell x c (clOf_val hfr e)
      exact ⟨v, o, k4 _ _ ho, hd⟩
    · exact I3.hok.fresh (by rw [hCC]; exact Nat.le_refl _)
    · exact I3.freeC x c (clOf_val hfr e)
    · unfold blkSt
      show (List.replicate own.length none ++ js.map fun j => (σ[j]?).join).length = (own ++ caps).length
      rw [List.length_append, List.length_append, List.length_replicate, List.length_map, B.len]
  -- what a state of the block says of the frame around
  have back : ∀ {σ' : St} {H' : Hp} {s' : Shared}, Inv Y [] σ' H' s' → Inv X pins σ H' s' := fun {σ' H' s'} I' => by
    subst hY
    exact I3.call' (ch := fp) I'.os I'.base I'.hok I'.bare fun b hb => ⟨(hfp b hb).2.2.2.1, (hfp b hb).2.1, (hfp b hb).2.2.2.2.1, (hfp b hb).2.2.2.2.2⟩
  have hcY : Y.calm = true := by rw [← hY]; exact hc
  have fY : ∀ {H' : Hp}, (∀ b ∈ fp, H' b = none) → ∀ b ∈ fp, FpOk Y [] H' b := fun hn b hb => by
    refine ⟨hn b hb, ?_, ?_, .inl ?_, fun x c e z => ?_, fun p hp => ?_⟩
    · rw [hYenv]; exact Nat.ne_of_lt (Nat.lt_trans (hT b hb) hD3)
    · rw [← hY]; intro z
      rcases List.mem_cons.mp (I3.stkSub b z) with e | e
      · exact (hfp b hb).2.1 e
      · exact (hfp b hb).2.2.1 e
    · rw [← hY]; exact hb
    · rw [hYenv] at e
      exact (hfp b hb).2.2.2.2.1 x c (clOf_val hfr e) z
    · rw [← hY] at hp
      exact absurd (show p ∈ ([] : List (Addr × Obj)) from hp) (by simp)
  have st1 : tn 0 h₁ := T.keep 0 _ _ st fun b _ o e => k4 b o (k32 b o e)
  have fr1 : ∀ b ∈ fp, (upd H2 D (.lst [])) b = none := fun b hb => (f3 b hb).1
  have loop : codeAny (model X.prog X.w) X.A (.compLoop (.ListComp elt [⟨tgt, iter, ifs, 0⟩] scope pos) 0 (.ref it) (.ref D) (compEnvC scope (clOf scope X.env) C X.env)) (RR (.ref D) C) { s3 with heap := h₁, toks := s2.toks + ([] : List (Str × Value)).length } := by
    refine codeAny_compLoop_own (fun n s' => ∃ i ys H', Inv Y [] (blkSt own.length js σ) H' s' ∧ tn i s'.heap ∧ (∀ b ∈ fp, H' b = none) ∧ W i n ys H') ?_ m0 ⟨0, [], _, IY, st1, fr1, w0⟩
    rintro n s5 ⟨i, ys, H5, I5, st5, fr5, w5⟩
    have eP : Y.prog = X.prog := by rw [← hY]; rfl
    have eW : Y.w = X.w := by rw [← hY]; rfl
    have eK : Y.K = X.K := by rw [← hY]; rfl
    have eA : Y.A = X.A := by rw [← hY]; rfl
    have eX : Y.xe = fun _ _ => False := by rw [← hY]; rfl
    rcases step i n ys H5 w5 with ⟨stop, q⟩ | ⟨go, turn⟩
    · have t := T.done Y eP eW eK hcY i [] s5 _ H5 (fun _ _ => False) I5 (fY fr5) st5 stop
      rw [eA] at t
      refine thn t fun r s6 ⟨hr, I6⟩ => ?_
      subst hr
      have J := back I6
      obtain ⟨m, hn, _⟩ := I6.loc
      rw [hYenv] at hn
      refine hRR D C m s6 H5 J hn ?_ q
      have hCle : s3.heap.objs.size ≤ C := by rw [hCC]; exact Nat.le_refl _
      have fc := I3.fpOk (H' := upd H2 D (.lst [])) hCle (I3.hok.fresh hCle)
      refine ⟨?_, fc.2⟩
      have := I6.free
      rw [hYenv] at this
      exact this
    · have t := T.item Y eP eW eK hcY i [] s5 _ H5 (fun _ _ => False) I5 (fY fr5) st5 go
      rw [eA] at t
      refine thn t fun r s6 ⟨u, hr, h6⟩ => ?_
      subst hr
      refine thn h6 fun _ s7 ⟨x, H7, I7, r7, y7, st7, fr7⟩ => ?_
      have I7' := I7.pinned (fY fr7) (T.obj _ _ st7)
      have hgY : PG Y tgt g := by rw [← hY]; exact hg _ _ _ _
      have hfY : PIf Y ifs tf := by rw [← hY]; exact hf _ _ _ _
      have heY : PE Y elt te := by rw [← hY]; exact he _ _ _ _
      have t2 := hgY _ s7 _ H7 x u _ I7' r7 (turn x H7 y7)
      rw [eP, eW, eA, eX, hYenv] at t2
      refine thn t2 fun _ s8 ⟨σ8, H8, I8, sub8, q8⟩ => ?_
      have t3 := hfY _ s8 σ8 H8 _ I8 q8
      rw [eP, eW, eA, eX, hYenv] at t3
      refine thn t3 fun ok s9 ⟨H9, I9, q9⟩ => ?_
      -- the iterator's own objects are pinned through the turn
      have after : ∀ {σ' : St} {H' : Hp} {s' : Shared} {zs : List V} {m' : Nat}, Inv Y ([] ++ pinsAt fp s7.heap) σ' H' s' → stSub (blkSt own.length js σ) σ' → m' < n → W (i + 1) m' zs H' →
          ∃ m, m < n ∧ ∃ i ys H', Inv Y [] (blkSt own.length js σ) H' s' ∧ tn i s'.heap ∧ (∀ b ∈ fp, H' b = none) ∧ W i m ys H' := fun {σ' H' s' zs m'} I' sub hm w' => by
        refine ⟨m', hm, i + 1, zs, H', (I'.unpinned).weak (sub.len.symm) (fun k v e => sub.get k v e), T.keep _ _ _ st7 fun b hb o e => (I'.pin (b, o) (List.mem_append_right _ (List.mem_append_right _ (mem_pinsAt hb e)))).1, fun b hb => ?_, w'⟩
        obtain ⟨o, e, d⟩ := T.obj _ _ st7 b hb
        exact (I'.pin (b, o) (List.mem_append_right _ (List.mem_append_right _ (mem_pinsAt hb e)))).2.1
      cases ok with
      | false =>
        have q9' : ∃ m', m' < n ∧ W (i + 1) m' ys H9 := q9
        obtain ⟨m', hm, w'⟩ := q9'
        exact after I9 sub8 hm w'
      | true =>
        have t4 := heY _ s9 σ8 H9 _ I9 q9
        rw [eP, eW, eA, eX, hYenv] at t4
        refine thn t4 fun xv s10 ⟨y, H10, I10, ry, hD, hz, m', hm, w'⟩ => ?_
        have t5 := mt_append (X := Y) _ s10 σ8 H10 (.ref D) [y] (.ref D) [xv] (fun _ H' => H' = upd H10 D (.lst (ys ++ [y]))) I10 rfl (.cons ry .nil) ⟨D, ys, y, rfl, rfl, hD, hz, rfl⟩
        rw [eP, eW, eA, eX] at t5
        refine thn t5 fun _ s11 ⟨_, H11, I11, _, e11⟩ => ?_
        subst e11
        exact after I11 sub8 hm w'
  have est : ({ s2 with heap := h₁, toks := s2.toks + ([] : List (Str × Value)).length } : Shared) = { s3 with heap := h₁, toks := s2.toks + ([] : List (Str × Value)).length } := by rw [← hS3]
  rw [← est] at loop
  exact codeAny_compStart_list loop (T.self _ 0 _ _ _ st1 loop)

theorem pe_comp (B : BlkOk X scope own caps js) (hc : X.calm = true) (hi : PI X tgt iter wi) (hg : ∀ C s₀ H₀ ex, PG (X.blk (own ++ caps) scope C s₀ H₀ ex) tgt g) (hf : ∀ C s₀ H₀ ex, PIf (X.blk (own ++ caps) scope C s₀ H₀ ex) ifs tf) (he : ∀ C s₀ H₀ ex, PE (X.blk (own ++ caps) scope C s₀ H₀ ex) elt te)
    (hs : ∀ x, foldedSetIterable iter X.env x = pure x := by intro _; rfl) : PE X (.ListComp elt [⟨tgt, iter, ifs, 0⟩] scope pos) (tComp own.length js wi g tf te) := by
  intro pins s σ H Q I h
  rw [eval_ListComp]
  refine wpAny_comprehension_free (use := none) rfl hs (closure_eq (B.hfree I.ok)) B.kind B.names ?_
  show wpAny _ _ (eval iter X.env) _ _ s
  refine thn (hi pins s σ H _ I h) fun v s1 h1 => thn h1 fun itv s2 h2 => ?_
  obtain ⟨it, fp, tn, J, H2, e, I2, T, st2, f2, hw⟩ := h2
  subst e
  refine comp_block (Q := Q) (RR := fun acc C => compPost (model X.prog X.w) X.A X.xe none (EP X pins σ Q) acc C) B hc hg hf he I2 T st2 f2 hw ?_
  intro D C m s' H' I' hn fc q
  refine ⟨m, hn, fun h' hs' => ?_⟩
  exact ⟨.ref D, H', I'.turned (t' := s'.toks) (it := C) (fun b o hb e => (hs'.2 b hb).trans e) fc.1 fc.2.1 fc.2.2.2.1 fc.2.2.2.2.1 fc.2.2.2.2.2, rfl, q⟩

/-- name = [.. for ..] -/
theorem ps_setC {i : Nat} {x : Str} {pos' spos : Pos} (hN : X.N.Nodup) (hiN : X.N[i]? = some x) (hx : Loc X.env.scope x) (B : BlkOk X scope own caps js) (hc : X.calm = true) (hi : PI X tgt iter wi) (hg : ∀ C s₀ H₀ ex, PG (X.blk (own ++ caps) scope C s₀ H₀ ex) tgt g) (hf : ∀ C s₀ H₀ ex, PIf (X.blk (own ++ caps) scope C s₀ H₀ ex) ifs tf)
    (he : ∀ C s₀ H₀ ex, PE (X.blk (own ++ caps) scope C s₀ H₀ ex) elt te) (hsw : swapsWith (.ListComp elt [⟨tgt, iter, ifs, 0⟩] scope pos) (some (.Name x pos')) spos.line X.env = pure true := by rfl)
    (hfn : X.fn x = true ∨ X.env.scope.names.lookup x = some .local := by first | exact .inl rfl | exact .inr rfl | assumption)
    (hs : ∀ x, foldedSetIterable iter X.env x = pure x := by intro _; rfl) : PS X (.Assign [.Name x pos'] (.ListComp elt [⟨tgt, iter, ifs, 0⟩] scope pos) spos) (tAsg (tComp own.length js wi g tf te) (gName i)) := by
  intro pins s σ H D I h
  rw [exec_Assign_Name_used _ _ _ _ hsw]
  refine wpAny_bind (wpAny_standAt (wpAny_bind ?_))
  show wpAny _ X.A (do let _ ← comprehension (.ListComp elt [⟨tgt, iter, ifs, 0⟩] scope pos) scope X.env _ (newList []) false (eval iter X.env) (some (assign (.Name x pos') X.env))) _ _ s
  refine wpAny_bind (wpAny_mono (wpAny_comprehension_free (use := some (assign (.Name x pos') X.env)) (Q := fun _ s' => SP X pins D .next s') rfl hs (closure_eq (B.hfree I.ok)) B.kind B.names
    (thn (hi pins s σ H _ I h) fun v s1 h1 => thn h1 fun itv s2 h2 => ?_)) (fun _ s' hq => wpAny_pure (wpAny_pure hq)) fun _ _ e => e)
  obtain ⟨it, fp, tn, J, H2, e, I2, T, st2, f2, hw⟩ := h2
  subst e
  refine comp_block (Q := fun x H1 => gName i x σ H1 D.nx) (RR := fun acc C => compPost (model X.prog X.w) X.A X.xe (some (assign (.Name x pos') X.env)) (fun _ s' => SP X pins D .next s') acc C) B hc hg hf he I2 T st2 f2 hw ?_
  intro Da C m s' H' I' hn fc q
  show wpAny _ X.A (assign (.Name x pos') X.env (.ref Da)) _ _ _
  refine wpAny_assign_Name (store_ok2 I' hN hiN hx (show RelV (.ref Da) (.ref Da) from rfl) (fun s'' I'' ⟨a, hsb, ha⟩ => ?_) hfn)
  have hCa : C ≠ a := by
    rcases ha with z | z
    · rw [z]; exact fc.2.1
    · exact Ne.symm (fc.2.2.2.2.1 x a z)
  refine ⟨m, hn.sameBut hsb hCa, fun h' hs' => ?_⟩
  exact ⟨_, H', I''.turned (t' := s''.toks) (it := C) (fun b o hb e => (hs'.2 b hb).trans e) fc.1 fc.2.1 fc.2.2.2.1 fc.2.2.2.2.1 fc.2.2.2.2.2, q⟩
end
end L2
namespace L2
open PySem PySem.Spec PyProof.Rows

/-! ### sum of a list of intL; isinstance against a built-in type; append -/
section
variable {X : Cx}
theorem call_sum1 (hc : X.calm = true) : CallR X (.builtin "sum") (fun xs H Q => ∃ (p : Addr) (ns : List Int), xs = [.ref p] ∧ SqL X.K H p (ns.map V.int) ∧ Q (.int ns.sum) H) := by
  intro pins s σ H xs us Q I r h
  obtain ⟨p, ns, rfl, hq, q⟩ := h
  obtain ⟨u, rfl, rx⟩ := vals1 r
  cases rx
  obtain ⟨its, r', pl, hz⟩ := I.list hq
  have hi := intsAre_of r'
  have hl := pl.isList
  have hn : numsOf its.toArray.toList = ns := by rw [show its.toArray.toList = its from rfl, hi.numsOf]
  have hall : AllInts its.toArray := hi.allInts
  revert hl hn
  obtain ⟨ys, e⟩ := hall.items
  rw [e]
  intro hl hn
  rw [nums_intItems] at hn
  refine sum_intListG (I.ok.hd hc) hl fun h' tk t' hk => ?_
  rw [preSum_eq, List.take_of_length_le (by simp), hn]
  exact ⟨.int ns.sum, H, I.kept hk, ⟨_, rfl⟩, q⟩
theorem call_isi : CallR X (.builtin "isinstance") (fun xs H Q => ∃ x t n b, xs = [x, .ty n] ∧ TyOf X.K H x t ∧ PySem.W.kitOne X.K t (.type n) = some b ∧ Q (.bl b) H) := by
  intro pins s σ H xs us Q I r h
  obtain ⟨x, t, n, b, rfl, ty, e, q⟩ := h
  obtain ⟨u, w', rfl, rx, ry⟩ := vals2 r
  cases ry
  exact isinst_ok I rx ty e fun tk => ⟨.bl b, H, I.tok _, rfl, q⟩
theorem pe_append {o e : Expr} {to : TE} {t : TA} {apos cpos : Pos} (ho : PE X o to) (ha : PA X [e] t)
    (hbase : attributeBase o "append" X.env (eval o X.env) = eval o X.env := by rfl)
    (hfew : ((backTo cpos (starEach [e] X.env)).all (fun x => !x.1) && (backToKw cpos (keywordEach [] X.env)).all (fun x => x.1.isSome)
      && decide (([e] : List Expr).length + ([] : List Keyword).length + (if ([] : List Keyword).isEmpty then 0 else 1) < 30)) = true := by rfl)
    (hline : (apos.endLine == cpos.line) = true := by rfl) (hs : starEach [e] X.env = (false, eval e X.env) :: starEach [] X.env := by rfl) :
    PE X (.Call (.Attribute o "append" apos) [e] [] cpos) (tBM X.K "list" rAppend to t) :=
  pe_bm F.plainAttrs_list F.slot_list_append F.type_list_append mt_append ho ha hbase hfew hline hs rfl
end

/-- what is captured, place by place -/
def capsOk (X : Cx) (scope : Scope) : List Nat → List Str → Prop
  | [], [] => True
  | j :: js, y :: ys => (X.N[j]? = some y ∧ scope.names.lookup y = some .free ∧ Vis X.env.scope y) ∧ capsOk X scope js ys
  | _, _ => False
theorem capsOk.len {X : Cx} {scope : Scope} : ∀ {js : List Nat} {ys : List Str}, capsOk X scope js ys → js.length = ys.length
  | [], [], _ => rfl
  | _ :: js, _ :: ys, h => by rw [List.length_cons, List.length_cons, capsOk.len (js := js) (ys := ys) h.2]
  | [], _ :: _, h => h.elim
  | _ :: _, [], h => h.elim
theorem capsOk.at {X : Cx} {scope : Scope} : ∀ {js : List Nat} {ys : List Str}, capsOk X scope js ys → ∀ (k j : Nat) (y : Str), js[k]? = some j → ys[k]? = some y → X.N[j]? = some y ∧ scope.names.lookup y = some .free ∧ Vis X.env.scope y
  | [], [], _, _, _, _, e, _ => by simp at e
  | _ :: _, _ :: _, h, 0, _, _, e, e' => by simp at e e'; subst e e'; exact h.1
  | _ :: js, _ :: ys, h, k + 1, j, y, e, e' => capsOk.at (js := js) (ys := ys) h.2 k j y (by simpa using e) (by simpa using e')
  | [], _ :: _, h, _, _, _, _, _ => h.elim
  | _ :: _, [], h, _, _, _, _, _ => h.elim
theorem blk_mk {X : Cx} {scope : Scope} {own caps : List Str} {js : List Nat} (h1 : scope.kind = .function) (h2 : ∀ y ∈ scope.names, y.2 = .local → scope.names.lookup y.1 = some .local) (h3 : ∀ y ∈ scope.names, y.2 ≠ .cell) (h4 : freesIn scope X.env = true) (cp : capsOk X scope js caps) :
    BlkOk X scope own caps js := ⟨h1, h2, h3, h4, cp.len, cp.at, fun _ _ _ => trivial⟩
namespace BootN
theorem sum : bootBuiltins "sum" = some (.builtin "sum") := by decide +kernel
theorem any : bootBuiltins "any" = some (.builtin "any") := by decide +kernel
theorem min : bootBuiltins "min" = some (.builtin "min") := by decide +kernel
theorem max : bootBuiltins "max" = some (.builtin "max") := by decide +kernel
theorem isinstance : bootBuiltins "isinstance" = some (.builtin "isinstance") := by decide +kernel
theorem int : bootBuiltins "int" = some (.type "int") := by decide +kernel
theorem list : bootBuiltins "list" = some (.type "list") := by decide +kernel
theorem tuple : bootBuiltins "tuple" = some (.type "tuple") := by decide +kernel
theorem bool : bootBuiltins "bool" = some (.type "bool") := by decide +kernel
theorem str : bootBuiltins "str" = some (.type "str") := by decide +kernel
end BootN
/-! ### built-in names that the text does not bind -/
structure BI (mg : Str → Option Value) : Prop where
  any : mg "any" = none
  len : mg "len" = none
  range : mg "range" = none
  zip : mg "zip" = none
  enumerate : mg "enumerate" = none
  min : mg "min" = none
  max : mg "max" = none
  sum : mg "sum" = none
  sorted : mg "sorted" = none
  int : mg "int" = none
  str : mg "str" = none
  bool : mg "bool" = none
  list : mg "list" = none
  tuple : mg "tuple" = none
  isinstance : mg "isinstance" = none
  ValueError : mg "ValueError" = none

/-! ### a def that is called by its name -/
def Callee (P : Program) (w : World) (K : PySem.W.Frag) (mg : Str → Option Value) (base : Heap) (x : Str) (j : Nat) (ps : List Str) (sp : Sp) : Prop :=
  ∃ f fd, FnOk P w K mg base CX0 j f fd ps sp ∧ Binds K fd ps [] ∧ PySem.W.keepIn K (.ref f) = true ∧ mg x = some (.ref f)
theorem pe_calln {X : Cx} {x : Str} {j k : Nat} {ps : List Str} {sp : Sp} {p pos : Pos} {e : Expr} {es : List Expr} {t : TA} (C : Callee X.prog X.w X.K X.mg X.base x j ps sp) (hr : Room k X.A) (hj : j ≤ k) (hg : Gl X x) (ha : PA X (e :: es) t)
    (hdb : (x == ("__debug__" : Str)) = false := by decide) (he : starEach (e :: es) X.env = (false, eval e X.env) :: starEach es X.env := by rfl) (hpl : (backTo pos (starEach es X.env)).any (·.1) = false := by rfl) :
    PE X (.Call (.Name x p) (e :: es) [] pos) (tCall sp [] E0 t) := by
  obtain ⟨f, fd, F, b, kp, m⟩ := C
  exact pe_call (F.mono hj) hr hg m kp b .nil pass0 ha hdb he hpl

/-! ### lists of intL, lists of lists of intL in the abstract heap -/
abbrev intL (ns : List Int) : List V := ns.map V.int
abbrev refL (rs : List Addr) : List V := rs.map V.ref
def Rows (H : Hp) : List Addr → List (List Int) → Prop
  | [], [] => True
  | r :: rs, x :: xs => H r = some (.lst (intL x)) ∧ Rows H rs xs
  | _, _ => False
theorem Rows.len {H : Hp} : ∀ {rs : List Addr} {xs : List (List Int)}, Rows H rs xs → rs.length = xs.length
  | [], [], _ => rfl
  | _ :: _, _ :: _, h => by rw [List.length_cons, List.length_cons, Rows.len h.2]
  | [], _ :: _, h => h.elim
  | _ :: _, [], h => h.elim
theorem Rows.get {H : Hp} : ∀ {rs : List Addr} {xs : List (List Int)} {i : Nat} {x : List Int}, Rows H rs xs → xs[i]? = some x → ∃ r, rs[i]? = some r ∧ H r = some (.lst (intL x))
  | [], [], _, _, _, e => by simp at e
  | r :: _, _ :: _, 0, _, h, e => by simp at e; subst e; exact ⟨r, rfl, h.1⟩
  | _ :: rs, _ :: xs, i + 1, x, h, e => by
    obtain ⟨r, e1, e2⟩ := Rows.get (i := i) h.2 (by simpa using e)
    exact ⟨r, by simpa using e1, e2⟩
  | [], _ :: _, _, _, h, _ => h.elim
  | _ :: _, [], _, _, h, _ => h.elim
theorem Rows.getr {H : Hp} : ∀ {rs : List Addr} {xs : List (List Int)} {i : Nat} {r : Addr}, Rows H rs xs → rs[i]? = some r → ∃ x, xs[i]? = some x ∧ H r = some (.lst (intL x))
  | [], [], _, _, _, e => by simp at e
  | r :: _, x :: _, 0, _, h, e => by simp at e; subst e; exact ⟨x, rfl, h.1⟩
  | _ :: rs, _ :: xs, i + 1, r, h, e => by
    obtain ⟨x, e1, e2⟩ := Rows.getr (i := i) h.2 (by simpa using e)
    exact ⟨x, by simpa using e1, e2⟩
  | [], _ :: _, _, _, h, _ => h.elim
  | _ :: _, [], _, _, h, _ => h.elim
theorem Rows.mono {H H' : Hp} : ∀ {rs : List Addr} {xs : List (List Int)}, Rows H rs xs → (∀ r ∈ rs, ∀ o, H r = some o → H' r = some o) → Rows H' rs xs
  | [], [], _, _ => trivial
  | r :: rs, x :: xs, h, k => ⟨k r List.mem_cons_self _ h.1, Rows.mono h.2 fun q hq => k q (List.mem_cons_of_mem _ hq)⟩
  | [], _ :: _, h, _ => h.elim
  | _ :: _, [], h, _ => h.elim
theorem Rows.same {H H' : Hp} {rs : List Addr} {xs : List (List Int)} (h : Rows H rs xs) (e : Same H H') : Rows H' rs xs := h.mono fun r _ o q => e r o q
theorem Rows.updt {H : Hp} {rs : List Addr} {xs : List (List Int)} {p : Addr} {o : HO} (h : Rows H rs xs) (hp : p ∉ rs) : Rows (upd H p o) rs xs :=
  h.mono fun r hr u q => by rw [upd_ne (fun z => hp (by rw [← z]; exact hr))]; exact q
theorem Rows.snoc {H : Hp} : ∀ {rs : List Addr} {xs : List (List Int)} {r : Addr} {x : List Int}, Rows H rs xs → H r = some (.lst (intL x)) → Rows H (rs ++ [r]) (xs ++ [x])
  | [], [], _, _, _, e => ⟨e, trivial⟩
  | _ :: _, _ :: _, _, _, h, e => ⟨h.1, Rows.snoc h.2 e⟩
  | [], _ :: _, _, _, h, _ => h.elim
  | _ :: _, [], _, _, h, _ => h.elim
theorem Rows.tracked {H : Hp} {rs : List Addr} {xs : List (List Int)} (h : Rows H rs xs) {r : Addr} (hr : r ∈ rs) : ∃ x, H r = some (.lst (intL x)) := by
  obtain ⟨i, hi⟩ := List.getElem?_of_mem hr
  obtain ⟨x, _, e⟩ := h.getr hi
  exact ⟨x, e⟩
theorem Rows.fresh {H : Hp} {rs : List Addr} {xs : List (List Int)} (h : Rows H rs xs) {p : Addr} (hp : H p = none) : p ∉ rs := fun hr => by
  obtain ⟨x, e⟩ := h.tracked hr
  rw [hp] at e; cases e
theorem same_new {H : Hp} {p : Addr} (h : H p = none) (o : HO) : Same H (upd H p o) := fun b u q => by rw [upd_ne (ne_of_none q h)]; exact q
theorem same_upd {H H' : Hp} {p : Addr} {o : HO} (s : Same H H') (h : H p = none) : Same H (upd H' p o) := fun b u q => by rw [upd_ne (ne_of_none q h)]; exact s b u q
theorem atI_ints {ns : List Int} {i : Nat} (h : i < ns.length) : atI (intL ns) (i : Int) = some (.int (ns.getD i 0)) :=
  atI_nat (by rw [List.getElem?_map, List.getElem?_eq_getElem h, List.getD_eq_getElem?_getD, List.getElem?_eq_getElem h]; rfl)
theorem atI_refs {rs : List Addr} {i : Nat} {r : Addr} (h : rs[i]? = some r) : atI (refL rs) (i : Int) = some (.ref r) :=
  atI_nat (by rw [List.getElem?_map, h]; rfl)
theorem ints_len (ns : List Int) : (intL ns).length = ns.length := List.length_map _
theorem refs_len (ns : List Addr) : (refL ns).length = ns.length := List.length_map _
theorem small {n : Nat} (h : n ≤ 1000) : n ≤ sizeLine := Nat.le_of_lt (small1000 h)
theorem ixN_nat {n i : Nat} (h : i < n) : ixN n (i : Int) = some i := by
  unfold ixN
  rw [if_pos (by omega), if_pos (by omega)]; simp

theorem for_range0 {n : Nat} {g : TG} {tb : TS} {D : Ends} {σ : St} {H : Hp} (Pv : Nat → St → Hp → Prop) (h0 : Pv 0 σ H)
    (hs : ∀ (i : Nat) σ H, i < n → Pv i σ H → g (.int (i : Int)) σ H fun σ2 H2 => tb { D with nx := Pv (i + 1), ct := Pv (i + 1), bk := D.nx } σ2 H2) (hd : ∀ σ H, Pv n σ H → D.nx σ H) :
    ∃ W : Nat → Nat → St → Hp → Prop, (∃ m, W 0 m σ H) ∧ ∀ i m σ H, W i m σ H →
      ((Itr 0 n).stop i H ∧ D.nx σ H) ∨ ((Itr 0 n).go i H ∧ ∃ N : St → Hp → Prop, (∀ σ' H', N σ' H' → ∃ m', m' < m ∧ W (i + 1) m' σ' H') ∧ ∀ x H', (Itr 0 n).yld i H x H' → g x σ H' fun σ2 H2 => tb { D with nx := N, ct := N, bk := D.nx } σ2 H2) :=
  for_range (lo := 0) Pv h0 (fun i σ H hi p => by rw [Int.zero_add]; exact hs i σ H hi p) hd
theorem g_name {i : Nat} {v : V} {σ : St} {H : Hp} {Q : St → Hp → Prop} (h : Q (σ.set i (some v)) H) : gName i v σ H Q := h
/-- two statements: what holds between them -/
theorem seq_any {t u : TS} {D : Ends} {σ : St} {H : Hp} (M : St → Hp → Prop) (h1 : ∀ N : St → Hp → Prop, (∀ σ' H', M σ' H' → N σ' H') → t { D with nx := N } σ H) (h2 : ∀ σ' H', M σ' H' → u D σ' H') : tSeq t u D σ H := h1 (u D) h2
theorem cutV_ints (ns : List Int) (lo hi : Option Int) : cutV (intL ns) lo hi = intL ((ns.drop (HT.sIx ns.length 0 lo)).take (HT.sIx ns.length ns.length hi - HT.sIx ns.length 0 lo)) := by
  unfold cutV intL
  rw [List.length_map, List.map_take, List.map_drop]
theorem cut_some (ns : List Int) (lo hi : Option Int) : ∃ ms : List Int, cutV (intL ns) lo hi = intL ms ∧ ms.length ≤ ns.length :=
  ⟨_, cutV_ints ns lo hi, by rw [List.length_take, List.length_drop]; omega⟩
theorem ints_get {ns : List Int} {i : Nat} {x : V} (h : (intL ns)[i]? = some x) : i < ns.length ∧ x = .int (ns.getD i 0) := by
  rw [List.getElem?_map] at h
  cases e : ns[i]? with
  | none => rw [e] at h; cases h
  | some y =>
    rw [e] at h
    refine ⟨(List.getElem?_eq_some_iff.mp e).1, ?_⟩
    rw [List.getD_eq_getElem?_getD, e]
    cases h; rfl
theorem pick2 (x y : Int) (k : Bool) : atI [V.int x, V.int y] (if k then 1 else 0) = some (.int (if k then y else x)) := by cases k <;> rfl
theorem ints_snoc (xs : List Int) (x : Int) : intL xs ++ [.int x] = intL (xs ++ [x]) := by simp [intL]
theorem refs_snoc (xs : List Addr) (x : Addr) : refL xs ++ [.ref x] = refL (xs ++ [x]) := by simp [refL]
theorem ints_set (xs : List Int) (i : Nat) (x : Int) : (intL xs).set i (.int x) = intL (xs.set i x) := by simp [intL]

/-! ### a comprehension's turns, by a word over the turn's number and what is listed so far -/
theorem stSub.refl : ∀ a : St, stSub a a
  | [] => trivial
  | none :: r => stSub.refl r
  | some _ :: r => ⟨rfl, stSub.refl r⟩
theorem tYes_of {σ : St} {H : Hp} {T U : Hp → Prop} (h : T H) : tYes σ H (fun b H3 => if b = true then T H3 else U H3) := by
  show (if true = true then T H else U H)
  rw [if_pos rfl]; exact h
theorem comp_by {J : It} {g : TG} {tf : TT} {te : TE} {σb : St} {Q : Addr → Hp → Prop} {H1 : Hp} {D : Addr} (N : Nat) (Pv : Nat → List V → Hp → Prop) (h0 : Pv 0 [] (upd H1 D (.lst [])))
    (hs : ∀ i ys H (Nx : List V → Hp → Prop), i < N → Pv i ys H → (∀ zs H', Pv (i + 1) zs H' → Nx zs H') → J.go i H ∧ ∀ x H', J.yld i H x H' → g x σb H' fun σ2 H2 => stSub σb σ2 ∧
      tf σ2 H2 fun b H3 => if b = true then te σ2 H3 fun y H4 => H4 D = some (.lst ys) ∧ ys.length < sizeLine ∧ Nx (ys ++ [y]) (upd H4 D (.lst (ys ++ [y]))) else Nx ys H3)
    (hd : ∀ ys H, Pv N ys H → J.stop N H ∧ Q D H) :
    ∃ W : Nat → Nat → List V → Hp → Prop, (∃ m, W 0 m [] (upd H1 D (.lst []))) ∧
      ∀ i m ys H, W i m ys H → (J.stop i H ∧ Q D H) ∨ (J.go i H ∧ ∀ x H', J.yld i H x H' → g x σb H' fun σ2 H2 => stSub σb σ2 ∧
        tf σ2 H2 fun b H3 => if b = true then te σ2 H3 fun y H4 => H4 D = some (.lst ys) ∧ ys.length < sizeLine ∧ ∃ m', m' < m ∧ W (i + 1) m' (ys ++ [y]) (upd H4 D (.lst (ys ++ [y])))
          else ∃ m', m' < m ∧ W (i + 1) m' ys H3) := by
  refine ⟨fun i m ys H => m = N - i ∧ i ≤ N ∧ Pv i ys H, ⟨N, rfl, Nat.zero_le _, h0⟩, ?_⟩
  rintro i m ys H ⟨rfl, hi, p⟩
  by_cases hlt : i < N
  · exact .inr (hs i ys H (fun zs H' => ∃ m', m' < N - i ∧ (m' = N - (i + 1) ∧ i + 1 ≤ N ∧ Pv (i + 1) zs H')) hlt p fun zs H' q => ⟨N - (i + 1), by omega, rfl, hlt, q⟩)
  · have e : i = N := by omega
    subst e
    exact .inl (hd ys H p)
theorem take_snoc {l : List Int} {i : Nat} {x : Int} (h : l[i]? = some x) : l.take (i + 1) = l.take i ++ [x] := by
  rw [List.take_add_one, h]; rfl
/-- [f(k) for k in range(n)] -/
theorem comp_range_ints {n : Nat} {f : Nat → Int} {te : TE} {js : List Nat} {σ : St} {Q : Addr → Hp → Prop} {H1 : Hp} (hz : n ≤ sizeLine)
    (he : ∀ (i : Nat) H' (Kx : VK), i < n → Same H1 H' → (∀ H'', Same H' H'' → Kx (.int (f i)) H'') → te (some (.int (i : Int)) :: js.map fun j => (σ[j]?).join) H' Kx)
    (hQ : ∀ D H', H1 D = none → Same H1 H' → H' D = some (.lst (intL ((List.range n).map f))) → Q D H') :
    ∀ D, H1 D = none → ∃ W : Nat → Nat → List V → Hp → Prop, (∃ m, W 0 m [] (upd H1 D (.lst []))) ∧
      ∀ i m ys H, W i m ys H → ((Itr 0 n).stop i H ∧ Q D H) ∨ ((Itr 0 n).go i H ∧ ∀ x H', (Itr 0 n).yld i H x H' → gName 0 x (blkSt 1 js σ) H' fun σ2 H2 => stSub (blkSt 1 js σ) σ2 ∧
        tYes σ2 H2 fun b H3 => if b = true then te σ2 H3 fun y H4 => H4 D = some (.lst ys) ∧ ys.length < sizeLine ∧ ∃ m', m' < m ∧ W (i + 1) m' (ys ++ [y]) (upd H4 D (.lst (ys ++ [y])))
          else ∃ m', m' < m ∧ W (i + 1) m' ys H3) := by
  intro D hD
  refine comp_by n (fun i ys H => ys = intL (((List.range n).map f).take i) ∧ H D = some (.lst ys) ∧ Same H1 H) ⟨rfl, upd_same, same_new hD _⟩ ?_ ?_
  · rintro i ys H Nx hi ⟨rfl, hDs, hS⟩ nx
    refine ⟨hi, ?_⟩
    rintro x H' ⟨rfl, rfl⟩
    refine ⟨stSub.refl _, tYes_of ?_⟩
    have e0 : (0 : Int) + (i : Int) = (i : Int) := Int.zero_add _
    show te (some (.int (0 + (i : Int))) :: js.map fun j => (σ[j]?).join) H' _
    rw [e0]
    refine he i H' _ hi hS fun H'' s2 => ⟨s2 _ _ hDs, ?_, nx _ _ ⟨?_, upd_same, same_upd (hS.trans s2) hD⟩⟩
    · rw [ints_len, List.length_take, List.length_map, List.length_range]; omega
    · rw [take_snoc (x := f i) (by rw [List.getElem?_map, List.getElem?_range hi]; rfl)]
      simp [intL]
  · rintro ys H ⟨rfl, hDs, hS⟩
    refine ⟨Nat.le_refl _, hQ D H hD hS ?_⟩
    rw [hDs, List.take_of_length_le (by simp)]
/-- [f(x, y) for x, y in zip(a, b)] -/
theorem comp_zip_ints {K : PySem.W.Frag} {a b : Addr} {xs ys : List Int} {f : Int → Int → Int} {te : TE} {js : List Nat} {σ : St} {Q : Addr → Hp → Prop} {H1 : Hp} (hx : SqL K H1 a (intL xs)) (hy : SqL K H1 b (intL ys)) (hl : xs.length = ys.length) (hz : xs.length ≤ sizeLine)
    (he : ∀ x y H' (Kx : VK), Same H1 H' → (∀ H'', Same H' H'' → Kx (.int (f x y)) H'') → te (some (.int x) :: some (.int y) :: js.map fun j => (σ[j]?).join) H' Kx)
    (hQ : ∀ D H', H1 D = none → Same H1 H' → H' D = some (.lst (intL (List.zipWith f xs ys))) → Q D H') :
    ∀ D, H1 D = none → ∃ W : Nat → Nat → List V → Hp → Prop, (∃ m, W 0 m [] (upd H1 D (.lst []))) ∧
      ∀ i m zs H, W i m zs H → ((Itz K a b).stop i H ∧ Q D H) ∨ ((Itz K a b).go i H ∧ ∀ x H', (Itz K a b).yld i H x H' → gTup K 2 (gCons (gName 0) (gCons (gName 1) gNil)) x (blkSt 2 js σ) H' fun σ2 H2 => stSub (blkSt 2 js σ) σ2 ∧
        tYes σ2 H2 fun b H3 => if b = true then te σ2 H3 fun y H4 => H4 D = some (.lst zs) ∧ zs.length < sizeLine ∧ ∃ m', m' < m ∧ W (i + 1) m' (zs ++ [y]) (upd H4 D (.lst (zs ++ [y])))
          else ∃ m', m' < m ∧ W (i + 1) m' zs H3) := by
  intro D hD
  have hzl : (List.zipWith f xs ys).length = xs.length := by rw [List.length_zipWith]; omega
  refine comp_by xs.length (fun i zs H => zs = intL ((List.zipWith f xs ys).take i) ∧ H D = some (.lst zs) ∧ Same H1 H) ⟨rfl, upd_same, same_new hD _⟩ ?_ ?_
  · rintro i zs H Nx hi ⟨rfl, hDs, hS⟩ nx
    have hi' : i < ys.length := by omega
    have gx : (intL xs)[i]? = some (.int xs[i]) := by rw [List.getElem?_map, List.getElem?_eq_getElem hi]; rfl
    have gy : (intL ys)[i]? = some (.int ys[i]) := by rw [List.getElem?_map, List.getElem?_eq_getElem hi']; rfl
    refine ⟨⟨_, _, _, _, hS.seq hx, hS.seq hy, gx, gy⟩, ?_⟩
    rintro v H' ⟨T, x, y, hT, rfl, rfl, ex, ey⟩
    have ex' := ex _ (hS.seq hx)
    have ey' := ey _ (hS.seq hy)
    rw [gx] at ex'; rw [gy] at ey'
    cases ex'; cases ey'
    have s1 : Same H (upd H T (.tup [.int xs[i], .int ys[i]])) := same_new hT _
    refine ⟨T, _, rfl, .inl (.inl upd_same), rfl, _, _, rfl, _, _, rfl, rfl, stSub.refl _, tYes_of ?_⟩
    refine he xs[i] ys[i] _ _ (hS.trans s1) fun H'' s2 => ⟨s2 _ _ (s1 _ _ hDs), ?_, nx _ _ ⟨?_, upd_same, same_upd (hS.trans (s1.trans s2)) hD⟩⟩
    · rw [ints_len, List.length_take, hzl]; omega
    · rw [take_snoc (x := f xs[i] ys[i]) (by rw [List.getElem?_zipWith, List.getElem?_eq_getElem hi, List.getElem?_eq_getElem hi'])]
      simp [intL]
  · rintro zs H ⟨rfl, hDs, hS⟩
    refine ⟨⟨_, _, hS.seq hx, hS.seq hy, .inl (by rw [ints_len]; exact Nat.le_refl _)⟩, hQ D H hD hS ?_⟩
    rw [hDs, List.take_of_length_le (by omega)]
end L2
namespace L2
open PySem PySem.Spec PyProof.Rows
/-! ### the rules that name the fragment, with the fragment as a letter (a block's context must not be named in a reading) -/
section
variable {X : Cx} {K : PySem.W.Frag}
theorem call_len_seqK (hK : X.K = K) : CallR X (.builtin "len") (fun xs H Q => ∃ p ys, xs = [.ref p] ∧ (SqL K H p ys ∨ SqT K H p ys) ∧ Q (.int ys.length) H) := by subst hK; exact call_len_seq
theorem call_list_ofK (hK : X.K = K) : CallR X (.type "list") (fun xs H Q => ∃ p ys, xs = [.ref p] ∧ (SqL K H p ys ∨ SqT K H p ys) ∧ ∀ l, H l = none → Q (.ref l) (upd H l (.lst ys))) := by subst hK; exact call_list_of
theorem call_sum1K (hK : X.K = K) (hc : X.calm = true) : CallR X (.builtin "sum") (fun xs H Q => ∃ (p : Addr) (ns : List Int), xs = [.ref p] ∧ SqL K H p (ns.map V.int) ∧ Q (.int ns.sum) H) := by subst hK; exact call_sum1 hc
theorem call_isiK (hK : X.K = K) : CallR X (.builtin "isinstance") (fun xs H Q => ∃ x t n b, xs = [x, .ty n] ∧ TyOf K H x t ∧ PySem.W.kitOne K t (.type n) = some b ∧ Q (.bl b) H) := by subst hK; exact call_isi
theorem ix_listK (hK : X.K = K) : IxR X (rIxL K) := by subst hK; exact ix_list
theorem ix_tupK (hK : X.K = K) : IxR X (rIxT K) := by subst hK; exact ix_tup
theorem sl_listK (hK : X.K = K) : SlR X (rSlL K) := by subst hK; exact sl_list
theorem op_notIn_seqK (hK : X.K = K) : OpR X (compareOp .NotIn) (rIn K true) := by subst hK; exact op_notIn_seq
theorem pg_tupK {es : List Expr} {k : Nat} {t : TGs} {n : Nat} {pos : Pos} (hK : X.K = K) (hc : X.calm = true) (h : PGs X es t)
    (hn : (assignEach es X.env).length = n := by rfl) (hst : (assignEach es X.env).findIdx? (·.1) = none := by rfl) : PG X (.Tuple es k pos) (gTup K n t) := by subst hK; exact pg_tup hc h hn hst
theorem pe_appendK {o e : Expr} {to : TE} {t : TA} {apos cpos : Pos} (hK : X.K = K) (ho : PE X o to) (ha : PA X [e] t)
    (hbase : attributeBase o "append" X.env (eval o X.env) = eval o X.env := by rfl)
    (hfew : ((backTo cpos (starEach [e] X.env)).all (fun x => !x.1) && (backToKw cpos (keywordEach [] X.env)).all (fun x => x.1.isSome)
      && decide (([e] : List Expr).length + ([] : List Keyword).length + (if ([] : List Keyword).isEmpty then 0 else 1) < 30)) = true := by rfl)
    (hline : (apos.endLine == cpos.line) = true := by rfl) (hs : starEach [e] X.env = (false, eval e X.env) :: starEach [] X.env := by rfl) :
    PE X (.Call (.Attribute o "append" apos) [e] [] cpos) (tBM K "list" rAppend to t) := by subst hK; exact pe_append ho ha hbase hfew hline hs
theorem pi_listK {tg l : Expr} {tl : TE} (hK : X.K = K) (hl : PE X l tl) : PI X tg l (iList K tl) := by subst hK; exact pi_list hl
theorem pi_zipK {elts : List Expr} {kk : Nat} {tpos : Pos} {a b : Expr} {ta : TA} {p pos : Pos} (hK : X.K = K) (hg : Gl X "zip") (hm : X.mg "zip" = none) (ha : PA X [a, b] ta) (hs : starEach [a, b] X.env = [(false, eval a X.env), (false, eval b X.env)] := by rfl) (hs2 : starEach [b] X.env = [(false, eval b X.env)] := by rfl) :
    PI X (.Tuple elts kk tpos) (.Call (.Name "zip" p) [a, b] [] pos) (iZip K ta) := by subst hK; exact pi_zip hg hm ha hs hs2
end
end L2
namespace L2
open PySem PySem.Spec PyProof.Rows

/-! ### own exceptions -/
theorem ObjOk.there {P : Program} {w : World} {H : Hp} {h : Heap} {a : Addr} {o : HO} (x : ObjOk P w H h a o) : ∃ ob, h.get? a = some ob := by
  cases o with
  | lst xs => obtain ⟨_, _, _, _, e⟩ := x; exact ⟨_, e⟩
  | tup xs => obtain ⟨_, _, _, ob, e, _⟩ := x; exact ⟨_, e⟩
  | dK kvs => obtain ⟨_, _, _, _, o, _, _, e, _⟩ := x; exact ⟨_, e⟩
  | dT kvs => obtain ⟨_, _, _, _, o, _, _, e, _⟩ := x; exact ⟨_, e⟩
  | set S n => obtain ⟨o, _, _, _, e, _⟩ := x; exact ⟨_, e⟩
  | ins C dx fs => obtain ⟨_, _, _, e, _⟩ := x; exact ⟨_, e⟩
  | own y => obtain ⟨_, e⟩ := x; exact ⟨_, e⟩
  | xd fs => obtain ⟨_, ⟨_, _, _, e, _⟩, _⟩ := x; exact ⟨_, e⟩
  | rng lo hi => obtain ⟨_, _, _, e⟩ := x; exact ⟨_, e⟩
  | frz ob u => obtain ⟨e, _⟩ := x; exact ⟨_, e⟩
  | tbl ps => exact ⟨_, (show h.get? a = some _ from x)⟩
  | met f y => exact ⟨_, (show h.get? a = some _ from x)⟩
  | ext φ => obtain ⟨_, ⟨_, e⟩, _⟩ := x; exact ⟨_, e⟩

/-- an exception of an own class at C flies out of a call: s, H the call's state, s', H' the state now -/
structure Flies (P : Program) (w : World) (outer : List Env) (H : Hp) (s : Shared) (H' : Hp) (ea C : Addr) (s' : Shared) : Prop where
  os : s'.os = s.os
  bare : AllBare s'.gens
  un : Un (frs outer) [] H H' s.heap s'.heap
  hok : HOk P w H' s'.heap
  new : s.heap.get? ea = none
  free : H' ea = none
  fly : ∃ B t vs, Heap.FlyingW B outer ea (.ref C) (.ref t) s'.heap ∧ s'.heap.TupAt t vs ∧ ∀ b o, s'.heap.get? b = some o → b ∉ frs outer → (H' b ≠ none ∨ s.heap.get? b ≠ none) → B.get? b = some o
def CX1 (P : Program) (w : World) : CXT := fun outer H s E e s' => ∃ (ea C : Addr) (H' : Hp), e = .ref ea ∧ Flies P w outer H s H' ea C s' ∧ E (.ref C) none H'

/-- an exception that is raised here reaches what the body wants of exceptions -/
def Wants (X : Cx) (E : XK) : Prop := ∀ (pins : List (Addr × Obj)) (σ : St) (H : Hp) (s : Shared) (h' : Heap) (e C : Addr) (vs : List Value), Inv X pins σ H s → Heap.MadeExcOf s.heap h' e (.ref C) vs → E (.ref C) none H → X.xe (.ref e) { s with heap := h' }

section
variable {P : Program} {w : World} {K : PySem.W.Frag} {mg : Str → Option Value} {base : Heap} {N : List Str} {qual : Str} {scope : Scope} {f : Addr} {cd : Value} {A : Around} {outer : List Env} {s : Shared} {H : Hp} {E : XK}
theorem frs_cons_ne {env : Env} {b : Addr} (hb : b ∉ frs outer) (hne : env.frame ≠ some b) : b ∉ frs (env :: outer) := by
  unfold frs
  rw [List.filterMap_cons]
  cases hf : env.frame with
  | none => exact hb
  | some L =>
    intro z
    rcases List.mem_cons.mp z with q | q
    · exact hne (by rw [hf, q])
    · exact hb q
theorem frs_cons_of {env : Env} {b : Addr} (hb : b ∉ frs (env :: outer)) : b ∉ frs outer := fun z => hb (by
  unfold frs; rw [List.filterMap_cons]
  cases env.frame with
  | none => exact z
  | some L => exact List.mem_cons_of_mem _ z)
theorem hide_hin {l : List Env} : ∀ env ∈ l, ∀ b, env.frame = some b → b ∈ frs l := fun env he b hb => List.mem_filterMap.mpr ⟨env, he, hb⟩

theorem wants_def : Wants (cxOf (CX1 P w) P w K mg base N qual scope f cd A outer s H E) E := by
  intro pins σ H1 s2 h' e C vs I hx hE
  show wpAny (model P w) (A.deeper (envOfC qual scope s.heap.objs.size f cd)) (leaving (envOfC qual scope s.heap.objs.size f cd) (.ref e)) _ _ _
  have stk := I.stack
  have hst : (cxOf (CX1 P w) P w K mg base N qual scope f cd A outer s H E).stack = envOfC qual scope s.heap.objs.size f cd :: outer := rfl
  rw [hst] at stk
  have low : ∀ b, s.heap.get? b ≠ none → (envOfC qual scope s.heap.objs.size f cd).frame ≠ some b := fun b hb q => by
    have q' : s.heap.objs.size = b := Option.some.inj q
    cases z : s.heap.get? b with
    | none => exact hb z
    | some o => exact absurd (Heap.lt_size z) (by rw [q']; exact Nat.lt_irrefl _)
  have inB : ∀ b o, s2.heap.get? b = some o → b ∉ frs (envOfC qual scope s.heap.objs.size f cd :: outer) → (PySem.W.hideAll s2.heap (frs (envOfC qual scope s.heap.objs.size f cd :: outer))).get? b = some o := fun b o q hb => PySem.W.hideAll_get _ q hb
  have trk : ∀ b, H1 b ≠ none → b ∉ frs (envOfC qual scope s.heap.objs.size f cd :: outer) := fun b hb z => hb (I.stkFree b (by rw [hst]; exact z))
  refine wpAny_leaves_madeW (s := { s2 with heap := h' }) (base := PySem.W.hideAll s2.heap (frs (envOfC qual scope s.heap.objs.size f cd :: outer))) (h := s2.heap) (env := envOfC qual scope s.heap.objs.size f cd) (outer := outer) (L := s.heap.objs.size)
    (by have := I.ok.frames; rw [hst] at this; exact this) rfl (fun b o q => PySem.W.of_hideAll _ q) (PySem.W.funFrames_hide stk hide_hin) hx fun h'' t hfl htup _ hup => ?_
  have go : ∀ b o, s2.heap.get? b = some o → b ∉ frs (envOfC qual scope s.heap.objs.size f cd :: outer) → h''.get? b = some o := fun b o q hb => hfl.1 b o (inB b o q hb)
  have slots : ∀ b o, s2.heap.get? b = some o → b ∈ frs outer → ∃ sl, h''.get? b = some { o with slots := sl } := fun b o q hb => by
    have hb' : b ∈ frs (envOfC qual scope s.heap.objs.size f cd :: outer) := Classical.byContradiction fun z => frs_cons_of z hb
    obtain ⟨_, o', ho', hnf⟩ := stk.mem hb'
    rw [q] at ho'; cases ho'
    exact hup b o (hx.keeps b o q) hnf
  refine ⟨e, C, H1, rfl, ⟨I.os, I.bare, ⟨fun b o q n hb _ => ?_, fun b o q n hb hx' => ?_, fun b o q n hx' => I.base.free b o q n hx', fun b o q hx' => ?_, I.base.tups, I.base.frzs, I.base.tbls⟩, fun b u q => ?_, ?_, ?_, ?_⟩, hE⟩
  · exact go b o (I.base.keep b o q n hb (by exact fun z => nomatch z)) (frs_cons_ne hb (low b (by rw [q]; exact fun z => nomatch z)))
  · obtain ⟨sl, q1⟩ := I.base.slot b o q n hb hx'
    obtain ⟨sl', q2⟩ := slots b _ q1 hb
    exact ⟨sl', q2⟩
  · obtain ⟨o', q1⟩ := I.base.there b o q hx'
    by_cases hb : b ∈ frs outer
    · obtain ⟨sl', q2⟩ := slots b _ q1 hb
      exact ⟨_, q2⟩
    · exact ⟨o', go b o' q1 (frs_cons_ne hb (low b (by rw [q]; exact fun z => nomatch z)))⟩
  · refine (I.hok b u q).stay (fun c v hc q1 => go c v q1 (trk c ?_)) (fun _ q1 => q1) fun _ _ q1 => q1
    rcases hc with z | z
    · rw [z, q]; exact fun z => nomatch z
    · rw [z]; exact fun z => nomatch z
  · cases z : s.heap.get? e with
    | none => rfl
    | some o =>
      obtain ⟨o', q1⟩ := I.base.there e o z (by exact fun z => nomatch z)
      have := hx.new
      rw [q1] at this; cases this
  · cases z : H1 e with
    | none => rfl
    | some o =>
      obtain ⟨o', q1⟩ := (I.hok e o z).there
      have := hx.new
      rw [q1] at this; cases this
  · refine ⟨_, t, vs, hfl, htup, fun b o q hb hor => ?_⟩
    have ex : ∃ o2, s2.heap.get? b = some o2 ∧ b ∉ frs (envOfC qual scope s.heap.objs.size f cd :: outer) := by
      rcases hor with z | z
      · cases z2 : H1 b with
        | none => exact absurd z2 z
        | some u =>
          obtain ⟨o2, q2⟩ := (I.hok b u z2).there
          exact ⟨o2, q2, trk b z⟩
      · cases z2 : s.heap.get? b with
        | none => exact absurd z2 z
        | some o1 =>
          obtain ⟨o2, q2⟩ := I.base.there b o1 z2 (by exact fun z => nomatch z)
          exact ⟨o2, q2, frs_cons_ne hb (low b z)⟩
    obtain ⟨o2, q2, hb2⟩ := ex
    have := go b o2 q2 hb2
    rw [q] at this; cases this
    exact inB b _ q2 hb2

theorem passes_def : Passes (CX1 P w) (cxOf (CX1 P w) P w K mg base N qual scope f cd A outer s H E) E := by
  intro pins σ H1 s2 e s' I hc
  obtain ⟨ea, C, H', rfl, F, hE⟩ := hc
  show wpAny (model P w) (A.deeper (envOfC qual scope s.heap.objs.size f cd)) (leaving (envOfC qual scope s.heap.objs.size f cd) (.ref ea)) _ _ _
  have hst : (cxOf (CX1 P w) P w K mg base N qual scope f cd A outer s H E).stack = envOfC qual scope s.heap.objs.size f cd :: outer := rfl
  rw [hst] at F
  obtain ⟨B, t, vs, hfl, htup, hB⟩ := F.fly
  have low : ∀ b, s.heap.get? b ≠ none → (envOfC qual scope s.heap.objs.size f cd).frame ≠ some b := fun b hb q => by
    have q' : s.heap.objs.size = b := Option.some.inj q
    cases z : s.heap.get? b with
    | none => exact hb z
    | some o => exact absurd (Heap.lt_size z) (by rw [q']; exact Nat.lt_irrefl _)
  have frF : ∀ b ∈ frs (envOfC qual scope s.heap.objs.size f cd :: outer), H' b = none := fun b hb => by
    obtain ⟨_, o, ho, _⟩ := I.stack.mem (show b ∈ frs (envOfC qual scope s.heap.objs.size f cd :: outer) from hb)
    exact F.un.free b o ho (I.stkFree b hb) (by exact fun z => nomatch z)
  refine wpAny_leaves_onW (s := s') (env := envOfC qual scope s.heap.objs.size f cd) (outer := outer) (L := s.heap.objs.size) (by have := I.ok.frames; rw [hst] at this; exact this) rfl hfl fun h'' hfl2 hup => ?_
  have go : ∀ b o, s'.heap.get? b = some o → b ∉ frs (envOfC qual scope s.heap.objs.size f cd :: outer) → (H' b ≠ none ∨ s2.heap.get? b ≠ none) → h''.get? b = some o := fun b o q hb hor => hfl2.1 b o (hB b o q hb hor)
  have slots : ∀ b o, s'.heap.get? b = some o → b ∈ frs outer → ∃ sl, h''.get? b = some { o with slots := sl } := fun b o q hb => by
    have hb' : b ∈ frs (envOfC qual scope s.heap.objs.size f cd :: outer) := Classical.byContradiction fun z => frs_cons_of z hb
    obtain ⟨_, o', ho', hnf⟩ := hfl.2.2.1.mem hb'
    rw [q] at ho'; cases ho'
    exact hup b o q hnf
  refine ⟨ea, C, H', rfl, ⟨F.os.trans I.os, F.bare, ⟨fun b o q n hb hx' => ?_, fun b o q n hb hx' => ?_, fun b o q n hx' => ?_, fun b o q hx' => ?_, fun b xs q => F.un.tups b xs (I.base.tups b xs q), fun b o u q => F.un.frzs b o u (I.base.frzs b o u q), fun b ps q => ?_⟩, fun b u q => ?_, ?_, F.free, ?_⟩, hE⟩
  · have q1 := I.base.keep b o q n hb hx'
    have n1 := I.base.free b o q n hx'
    have hb2 := frs_cons_ne (outer := outer) hb (low b (by rw [q]; exact fun z => nomatch z))
    exact go b o (F.un.keep b o q1 n1 hb2 hx') hb2 (.inr (by rw [q1]; exact fun z => nomatch z))
  · obtain ⟨sl, q1⟩ := I.base.slot b o q n hb hx'
    have n1 := I.base.free b o q n hx'
    obtain ⟨sl2, q2⟩ := F.un.any q1 n1 hx'
    obtain ⟨sl3, q3⟩ := slots b _ q2 hb
    exact ⟨sl3, q3⟩
  · obtain ⟨o1, q1⟩ := I.base.there b o q hx'
    exact F.un.free b o1 q1 (I.base.free b o q n hx') hx'
  · obtain ⟨o1, q1⟩ := I.base.there b o q hx'
    obtain ⟨o2, q2⟩ := F.un.there b o1 q1 hx'
    by_cases hb : b ∈ frs outer
    · obtain ⟨sl', q3⟩ := slots b _ q2 hb
      exact ⟨_, q3⟩
    · exact ⟨o2, go b o2 q2 (frs_cons_ne hb (low b (by rw [q]; exact fun z => nomatch z))) (.inr (by rw [q1]; exact fun z => nomatch z))⟩
  · obtain ⟨m1, e1⟩ := I.base.tbls b ps q
    obtain ⟨m2, e2⟩ := F.un.tbls b _ e1
    exact ⟨m1 ++ m2, by rw [e2, Array.append_assoc]⟩
  · refine (F.hok b u q).stay (fun c v hc q1 => ?_) (fun _ q1 => q1) fun _ _ q1 => q1
    have hn : H' c ≠ none := by
      rcases hc with z | z
      · rw [z, q]; exact fun z => nomatch z
      · rw [z]; exact fun z => nomatch z
    exact go c v q1 (fun z => hn (frF c z)) (.inl hn)
  · cases z : s.heap.get? ea with
    | none => rfl
    | some o =>
      obtain ⟨o', q1⟩ := I.base.there ea o z (by exact fun z => nomatch z)
      have := F.new
      rw [q1] at this; cases this
  · refine ⟨B, t, vs, hfl2, htup.of_slots hup, fun b o q hb hor => ?_⟩
    have ex : ∃ o2, s'.heap.get? b = some o2 ∧ b ∉ frs (envOfC qual scope s.heap.objs.size f cd :: outer) ∧ (H' b ≠ none ∨ s2.heap.get? b ≠ none) := by
      rcases hor with z | z
      · cases z2 : H' b with
        | none => exact absurd z2 z
        | some u =>
          obtain ⟨o2, q2⟩ := (F.hok b u z2).there
          exact ⟨o2, q2, fun y => z (frF b y), .inl (by exact fun z => nomatch z)⟩
      · cases z2 : s.heap.get? b with
        | none => exact absurd z2 z
        | some o1 =>
          obtain ⟨o2, q2⟩ := I.base.there b o1 z2 (by exact fun z => nomatch z)
          obtain ⟨o3, q3⟩ := F.un.there b o2 q2 (by exact fun z => nomatch z)
          exact ⟨o3, q3, frs_cons_ne hb (low b z), .inr (by rw [q2]; exact fun z => nomatch z)⟩
    obtain ⟨o2, q2, hb2, hor2⟩ := ex
    have := go b o2 q2 hb2 hor2
    rw [q] at this; cases this
    exact hB b _ q2 hb2 hor2
end

/-! ### raise C(..) -/
theorem exc_obj {K : PySem.W.Frag} {h : Heap} {C : Addr} {bmB : List Value} {newId : String} (X : K.In h) (q : PySem.W.excIn K C bmB newId = true) :
    ∃ bm N nm q bs hdct sn sub ab col dd k0 k1 k2 k3 k5 mN, h.get? C = some (excClassObj nm q C N bs bm hdct sn sub ab col dd k0 k1 k2 k3 k5 newId) ∧ h.Ns N mN ∧ mN "__init__" = none ∧ OwnTail h bmB bm := by
  unfold PySem.W.excIn at q
  split at q
  · rename_i dd cd sl ho
    split at q
    · rename_i C' bm k0 k1 k2 k3 n k5 hm hs
      simp only [Bool.and_eq_true, beq_iff_eq, Bool.not_eq_true'] at q
      obtain ⟨⟨⟨⟨⟨rfl, rfl⟩, hdel⟩, ht⟩, hok⟩, hni⟩ := q
      obtain ⟨nm, bs, mro, ns, qn, hd, sn, sub, ab, col, del⟩ := cd
      dsimp only at hm hdel hok hni
      subst hm hdel
      have hsl : sl = #[k0, k1, k2, k3, some (.builtin n), k5] := by
        obtain ⟨l⟩ := sl
        simp only at hs
        rw [hs]
      subst hsl
      exact ⟨bm, ns, nm, qn, bs, hd, sn, sub, ab, col, dd, k0, k1, k2, k3, k5, _, X _ _ ho, .of_isNs (PySem.W.isNs_of_in X hok), PySem.W.nsMap_none_of_in X hok hni, PySem.W.tail_of_in X ht⟩
    · cases q
  · cases q
section
variable {X : Cx} {x : Str} {C : Addr} {np cpos pos : Pos} {e : Expr} {es : List Expr} {t : TA} {E : XK}
abbrev veBm : List Value := [.type "ValueError", .type "Exception", .type "BaseException", .type "object"]
def tRaise (C : Addr) (E : XK) (t : TA) : TS := fun _ σ H => t σ H fun vs H1 => vs.length ≤ sizeLine ∧ E (.ref C) none H1
/-- raise C(e, ..), C an own class under ValueError -/
theorem ps_raise (hW : Wants X E) (hc : X.calm = true) (hC : PySem.W.excIn X.K C veBm "ValueError.__new__" = true) (hg : Gl X x) (hm : X.mg x = some (.ref C)) (ha : PA X (e :: es) t)
    (hd : (x == ("__debug__" : Str)) = false := by decide) (he : starEach (e :: es) X.env = (false, eval e X.env) :: starEach es X.env := by rfl) (hpl : (backTo cpos (starEach es X.env)).any (·.1) = false := by rfl) :
    PS X (.Raise (some (.Call (.Name x np) (e :: es) [] cpos)) none pos) (tRaise C E t) := by
  intro pins s σ H D I h
  obtain ⟨tl, N, nm, q, bs, hdct, sn, sub, ab, col, dd, k0, k1, k2, k3, k5, mN, hC', hN, hni, T⟩ := exc_obj I.ok.mod.kin hC
  refine wpAny_Raise_call_subT (C := C) (nm := nm) (q := q) (N := N) (bs := bs) (bm := tl) (hdct := hdct) (sn := sn) (sub := sub) (ab := ab) (col := col) (dd := dd) (k0 := k0) (k1 := k1) (k2 := k2) (k3 := k3) (k5 := k5)
    F.excBase_ValueError (mN := mN) (T.hasType F.excBase_ValueError.hasBase) (I.ok.hd hc) (by rw [he]; show (false || (backTo cpos (starEach es X.env)).any (·.1)) = false; rw [hpl]; rfl) hni (ld_glob I hg hm ⟨rfl, ?_⟩ hd)
  have h2 := ha cpos pins s σ H _ I h
  rw [he] at h2 ⊢
  refine Calls.evalArgs_plain (thn h2 fun us s2 ⟨vs, H1, I1, r, hz, hE⟩ => ?_)
  exact ⟨rfl, by rw [← r.length]; exact hz, I1.bk _ _ hC', hN.keeps I1.bk, T.keeps I1.bk, fun h' e hm' => hW pins σ H1 s2 h' e C us I1 hm' hE⟩
end
end L2
namespace L2
open PySem PySem.Spec PyProof.Rows

/-! ### calls that may raise; what is wanted of the exception may hang on the names' values -/
def PassesS (CX : CXT) (X : Cx) (E : St → XK) : Prop := ∀ (pins : List (Addr × Obj)) (σ : St) (H : Hp) (s : Shared) (e : Value) (s' : Shared), Inv X pins σ H s → CX X.stack H s (E σ) e s' → X.xe e s'
theorem Passes.s {CX : CXT} {X : Cx} {E : XK} (h : Passes CX X E) : PassesS CX X (fun _ => E) := fun pins σ H s e s' I hc => h pins σ H s e s' I hc
def tCallS (sp : Sp) (E : St → XK) (t : TA) : TE := fun σ H Q => t σ H fun vs H1 => sp vs H1 Q (E σ)
def CalleeX (P : Program) (w : World) (K : PySem.W.Frag) (mg : Str → Option Value) (base : Heap) (x : Str) (j : Nat) (ps : List Str) (sp : Sp) : Prop :=
  ∃ f fd, FnOk P w K mg base (CX1 P w) j f fd ps sp ∧ Binds K fd ps [] ∧ PySem.W.keepIn K (.ref f) = true ∧ mg x = some (.ref f)
theorem pe_callX {X : Cx} {x : Str} {j k : Nat} {ps : List Str} {sp : Sp} {p pos : Pos} {e : Expr} {es : List Expr} {t : TA} {E : St → XK} (C : CalleeX X.prog X.w X.K X.mg X.base x j ps sp) (hr : Room k X.A) (hj : j ≤ k) (hg : Gl X x) (hp : PassesS (CX1 X.prog X.w) X E) (ha : PA X (e :: es) t)
    (hdb : (x == ("__debug__" : Str)) = false := by decide) (he : starEach (e :: es) X.env = (false, eval e X.env) :: starEach es X.env := by rfl) (hpl : (backTo pos (starEach es X.env)).any (·.1) = false := by rfl) :
    PE X (.Call (.Name x p) (e :: es) [] pos) (tCallS sp E t) := by
  obtain ⟨f, fd, F, hb, kp, hm⟩ := C
  intro pins s σ H Q I h
  refine wpAny_Call_Name_kw (ld_glob I hg hm ?_ hdb)
  refine PySem.W.callWith_K (h₀ := X.base) I.ok.mod.kin kp (thn (ha pos pins s σ H _ I h) fun us s1 ⟨vs, H1, I1, r, q⟩ => ⟨I1.kIn, ?_⟩) he hpl
  have hl : us.length = ps.length := by rw [← r.length]; exact F.len _ _ _ _ q
  have b1 := hb s1 us I1.kIn (by rw [List.append_nil]; exact hl)
  rw [List.append_nil] at b1
  refine wpAny_call (codeAny_mono (F.run X.A X.stack s1 H1 ⟨us, []⟩ us vs Q (E σ) (hr.mono hj) I1.env0 b1 r q) fun r s' hq => ?_)
  cases r with
  | error e => exact hp pins σ H1 s1 e s' I1 hq
  | ok fl =>
    cases fl with
    | ret u => exact I1.after hq
    | next => exact False.elim hq
    | brk => exact False.elim hq
    | cont => exact False.elim hq
section
variable {P : Program} {w : World} {K : PySem.W.Frag} {mg : Str → Option Value} {base : Heap}
/-- a def that may raise -/
theorem Fun.okX {x qual : Str} {st : Stmt} {f : Addr} {fd : FuncData} {N ps : List Str} {k : Nat} {sp : Sp} (F : Fun K x qual st f fd) (S : FnScope N ps (defScope st)) (len : ∀ vs H Q E, sp vs H Q E → vs.length = ps.length)
    (hbody : ∀ (cdv : Value) (A : Around) (outer : List Env) (s : Shared) (H : Hp) (vs : List V) (Q : VK) (E : XK), Room k (A.deeper (envOfC qual (defScope st) s.heap.objs.size f cdv)) → sp vs H Q E →
      ∃ t, PSs (cxOf (CX1 P w) P w K mg base N qual (defScope st) f cdv A outer s H E) (defBody st) t ∧ t { nx := fun _ H' => Q .non H', rt := Q } (start N vs) H) : FnOk P w K mg base (CX1 P w) (k + 1) f fd ps sp := by
  obtain ⟨oc, od, kV, doc, pm, an, cdv, ct, osl, rfl, lk, hcd⟩ := F.ex
  exact fn_of lk hcd S len fun A outer s H vs Q E hr hsp => hbody cdv A outer s H vs Q E hr hsp
end

/-! ### try -/
section
variable {X : Cx} {pins : List (Addr × Obj)} {σ : St} {H H' : Hp} {s s' : Shared} {ea C : Addr}
theorem Flies.inv (I : Inv X pins σ H s) (F : Flies X.prog X.w X.stack H s H' ea C s') : Inv X pins σ H' s' := I.call' (ch := []) F.os F.un F.hok F.bare fun b z => nomatch z
/-- the exception's own records turn -/
theorem Flies.move {P : Program} {w : World} {outer : List Env} (F : Flies P w outer H s H' ea C s') {B : Heap} {t : Addr} {vs : List Value} {h'' : Heap} {g0 : Array GenState}
    (hfl : Heap.FlyingW B outer ea (.ref C) (.ref t) s'.heap) (htup : s'.heap.TupAt t vs) (hB : ∀ b o, s'.heap.get? b = some o → b ∉ frs outer → (H' b ≠ none ∨ s.heap.get? b ≠ none) → B.get? b = some o) (frF : ∀ b ∈ frs outer, H' b = none)
    (hfl2 : Heap.FlyingW B outer ea (.ref C) (.ref t) h'') (hup : s'.heap.UpToSlots h'') : Flies P w outer H s H' ea C { s' with heap := h'' } := by
  have go : ∀ b o, s'.heap.get? b = some o → b ∉ frs outer → (H' b ≠ none ∨ s.heap.get? b ≠ none) → h''.get? b = some o := fun b o q hb hor => hfl2.1 b o (hB b o q hb hor)
  have slots : ∀ b o, s'.heap.get? b = some o → b ∈ frs outer → ∃ sl, h''.get? b = some { o with slots := sl } := fun b o q hb => by
    obtain ⟨_, o', ho', hnf⟩ := hfl.2.2.1.mem (show b ∈ outer.filterMap (·.frame) from hb)
    rw [q] at ho'; cases ho'
    exact hup b o q hnf
  refine ⟨F.os, F.bare, ⟨fun b o q n hb hx' => ?_, fun b o q n hb hx' => ?_, F.un.free, fun b o q hx' => ?_, F.un.tups, F.un.frzs, F.un.tbls⟩, fun b u q => ?_, F.new, F.free, B, t, vs, hfl2, htup.of_slots hup, fun b o q hb hor => ?_⟩
  · exact go b o (F.un.keep b o q n hb hx') hb (.inr (by rw [q]; exact fun z => nomatch z))
  · obtain ⟨sl2, q2⟩ := F.un.slot b o q n hb hx'
    obtain ⟨sl3, q3⟩ := slots b _ q2 hb
    exact ⟨sl3, q3⟩
  · obtain ⟨o2, q2⟩ := F.un.there b o q hx'
    by_cases hb : b ∈ frs outer
    · obtain ⟨sl', q3⟩ := slots b _ q2 hb
      exact ⟨_, q3⟩
    · exact ⟨o2, go b o2 q2 hb (.inr (by rw [q]; exact fun z => nomatch z))⟩
  · refine (F.hok b u q).stay (fun c v hc q1 => ?_) (fun _ q1 => q1) fun _ _ q1 => q1
    have hn : H' c ≠ none := by
      rcases hc with z | z
      · rw [z, q]; exact fun z => nomatch z
      · rw [z]; exact fun z => nomatch z
    exact go c v q1 (fun z => hn (frF c z)) (.inl hn)
  · have ex : ∃ o2, s'.heap.get? b = some o2 := by
      rcases hor with z | z
      · cases z2 : H' b with
        | none => exact absurd z2 z
        | some u => exact (F.hok b u z2).there
      · cases z2 : s.heap.get? b with
        | none => exact absurd z2 z
        | some o1 => exact F.un.there b o1 z2 (by exact fun z => nomatch z)
    obtain ⟨o2, q2⟩ := ex
    have := go b o2 q2 hb hor
    rw [q] at this; cases this
    exact hB b _ q2 hb hor
end
end L2
namespace L2
open PySem PySem.Spec PyProof.Rows
/-! ### the contexts of a try's body and of an except suite -/
def Cx.tryC (X : Cx) (pn : List (Addr × Obj)) (W : Value → Shared → Prop) : Cx where
  prog := X.prog
  w := X.w
  K := X.K
  mg := X.mg
  base := X.base
  A := X.A
  N := X.N
  s₀ := X.s₀
  H₀ := X.H₀
  env := X.env
  outer := X.outer
  stack := X.stack
  ex := X.ex
  fn := X.fn
  calm := X.calm
  pn := pn
  xe := W
def Cx.hnd (X : Cx) (ea : Addr) (pn : List (Addr × Obj)) : Cx where
  prog := X.prog
  w := X.w
  K := X.K
  mg := X.mg
  base := X.base
  A := X.A.mark (some (.ref ea))
  N := X.N
  s₀ := X.s₀
  H₀ := X.H₀
  env := X.env
  outer := X.outer
  stack := X.stack
  ex := X.ex
  fn := X.fn
  calm := false
  pn := pn
  xe := fun _ _ => False
section
variable {X : Cx} {pins pn : List (Addr × Obj)} {σ : St} {H H' : Hp} {s s' : Shared} {ea C : Addr} {W : Value → Shared → Prop}
theorem Inv.toTry (I : Inv X pins σ H s) (W : Value → Shared → Prop) : Inv (X.tryC (X.pn ++ pins) W) [] σ H s :=
  ⟨⟨I.ok.mod, I.ok.kind, I.ok.glob, I.ok.blt, I.ok.above, I.ok.inj, I.ok.has, I.ok.cab, I.ok.hd, I.ok.frames, I.ok.stk, I.ok.exf, I.ok.bs, I.ok.bsz, I.ok.noex, I.ok.exfs, I.ok.funs, I.ok.frf⟩, I.os, I.bare, I.base, I.loc, I.cell, I.free, I.freeC, fun p hp => I.pin p (by
    have z : p ∈ (X.pn ++ pins) ++ [] := hp
    rw [List.append_nil] at z; exact z), I.hok, I.len⟩
theorem Inv.ofTry {pins' : List (Addr × Obj)} (I : Inv (X.tryC (X.pn ++ pins) W) pins' σ H s) : Inv X pins σ H s :=
  ⟨⟨I.ok.mod, I.ok.kind, I.ok.glob, I.ok.blt, I.ok.above, I.ok.inj, I.ok.has, I.ok.cab, I.ok.hd, I.ok.frames, I.ok.stk, I.ok.exf, I.ok.bs, I.ok.bsz, I.ok.noex, I.ok.exfs, I.ok.funs, I.ok.frf⟩, I.os, I.bare, I.base, I.loc, I.cell, I.free, I.freeC, fun p hp => I.pin p (List.mem_append_left _ hp), I.hok, I.len⟩
theorem Inv.toHnd (I : Inv X pins σ H s) {oe : Obj} (hp : s.heap.get? ea = some oe ∧ H ea = none ∧ ea ≠ X.env.locals ∧ ea ∉ X.fs ∧ ∀ v, oe.data ≠ .cell v) : Inv (X.hnd ea (X.pn ++ pins ++ [(ea, oe)])) [] σ H s :=
  ⟨⟨I.ok.mod, I.ok.kind, I.ok.glob, I.ok.blt, I.ok.above, I.ok.inj, I.ok.has, I.ok.cab, fun z => (Bool.false_ne_true z).elim, I.ok.frames, I.ok.stk, I.ok.exf, I.ok.bs, I.ok.bsz, I.ok.noex, I.ok.exfs, I.ok.funs, I.ok.frf⟩, I.os, I.bare, I.base, I.loc, I.cell, I.free, I.freeC, fun p hq => by
    have z : p ∈ (X.pn ++ pins ++ [(ea, oe)]) ++ [] := hq
    rw [List.append_nil] at z
    rcases List.mem_append.mp z with y | y
    · exact I.pin p y
    · rw [List.mem_singleton.mp y]; exact hp, I.hok, I.len⟩
theorem Inv.ofHnd {oe : Obj} {pins' : List (Addr × Obj)} (hd : X.calm = true → X.A.handled = none) (I : Inv (X.hnd ea (X.pn ++ pins ++ [(ea, oe)])) pins' σ H s) : Inv X pins σ H s :=
  ⟨⟨I.ok.mod, I.ok.kind, I.ok.glob, I.ok.blt, I.ok.above, I.ok.inj, I.ok.has, I.ok.cab, hd, I.ok.frames, I.ok.stk, I.ok.exf, I.ok.bs, I.ok.bsz, I.ok.noex, I.ok.exfs, I.ok.funs, I.ok.frf⟩, I.os, I.bare, I.base, I.loc, I.cell, I.free, I.freeC, fun p hp => I.pin p (List.mem_append_left _ (List.mem_append_left _ hp)), I.hok, I.len⟩
end

/-! ### except clauses -/
abbrev TH := Addr → Addr → TS
def PH (X : Cx) (hs : List ExceptHandler) (th : TH) : Prop :=
  ∀ (C ea : Addr) (pins : List (Addr × Obj)) (s s' : Shared) (σ : St) (H0 H : Hp) (D : Ends), Inv X pins σ H0 s → Flies X.prog X.w X.stack H0 s H ea C s' → th C ea D σ H → wpAny (model X.prog X.w) X.A (handleBy (.ref ea) X.env hs) (SP X pins D) X.xe s'
def hNil : TH := fun _ _ _ _ _ => False
theorem ph_nil {X : Cx} : PH X [] hNil := fun _ _ _ _ _ _ _ _ _ _ _ h => h.elim
def hCons (K : PySem.W.Frag) (Dc : Addr) (ts th : TH) : TH := fun C ea D σ H => (PySem.W.exmOne K (.ref C) (.ref Dc) = some true ∧ ts C ea D σ H) ∨ (PySem.W.exmOne K (.ref C) (.ref Dc) = some false ∧ th C ea D σ H)
section
variable {X : Cx} {x n : Str} {Dc : Addr} {np pos : Pos} {b₀ : Stmt} {suite : List Stmt} {rest : List ExceptHandler} {ts th : TH}
theorem Flies.frF {pins : List (Addr × Obj)} {σ : St} {H0 H : Hp} {s s' : Shared} {ea C : Addr} (I : Inv X pins σ H0 s) (F : Flies X.prog X.w X.stack H0 s H ea C s') : ∀ b ∈ frs X.stack, H b = none := fun b hb => by
  obtain ⟨_, o, ho, _⟩ := I.stack.mem (show b ∈ X.stack.filterMap (·.frame) from hb)
  exact F.un.free b o ho (I.stkFree b hb) (by exact fun z => nomatch z)
theorem Flies.obj {pins : List (Addr × Obj)} {σ : St} {H0 H : Hp} {s s' : Shared} {ea C : Addr} (I : Inv X pins σ H0 s) (F : Flies X.prog X.w X.stack H0 s H ea C s') :
    ∃ oe, oe.cls = .ref C ∧ (∃ vs, oe.data = .fields vs) ∧ s'.heap.get? ea = some oe ∧ H ea = none ∧ ea ≠ X.env.locals ∧ ea ∉ X.fs ∧ ∀ v, oe.data ≠ .cell v := by
  obtain ⟨B, t, vs, hfl, _⟩ := F.fly
  obtain ⟨oe, ws, he, hc, hd, _⟩ := hfl.first
  have I' := F.inv I
  refine ⟨oe, hc, ⟨ws, hd⟩, he, F.free, fun z => ?_, fun z => ?_, fun v z => by rw [hd] at z; cases z⟩
  · obtain ⟨m, ⟨o, es, ep, ho, hd', _⟩, _⟩ := I'.loc
    rw [z, ho] at he; cases he
    rw [hd'] at hd; cases hd
  · obtain ⟨_, o, ho, hnf⟩ := I'.funs.mem (show ea ∈ X.outer.filterMap (·.frame) from z)
    rw [ho] at he; cases he
    exact hnf ws hd
/-- except D: .. -/
theorem ph_cons (hg : Gl X x) (hm : X.mg x = some (.ref Dc)) (hsuite : ∀ C ea oe pn, oe.cls = .ref C → (ea, oe) ∈ pn → PSs (X.hnd ea pn) (b₀ :: suite) (ts C ea)) (hrest : PH X rest th) (hdb : (x == ("__debug__" : Str)) = false := by decide) :
    PH X (.ExceptHandler (some (.Name x np)) none (b₀ :: suite) pos :: rest) (hCons X.K Dc ts th) := by
  intro C ea pins s s' σ H0 H D I F h
  have I' := F.inv I
  obtain ⟨oe, hoc, _, he, hp⟩ := F.obj I
  have LT : PySem.W.Looks (model X.prog X.w) s'.heap (typeOf (.ref ea)) (.ref C) := hoc ▸ (PySem.W.Looks.ld he).andThen .now
  refine wpAny_handleBy_cons (codeAny_handlers_test ?_) (by intro q; cases q)
  have ld : ∀ {Q' : Value → Shared → Prop} {E' : Value → Shared → Prop}, Q' (.ref Dc) s' → wpAny (model X.prog X.w) (X.A.mark (some (.ref ea))) (eval (.Name x np) X.env) Q' E' s' := fun q =>
    Calls.Name_function_global I'.ok.kind hg (Calls.loadGlobal_global (by rw [I'.ok.glob]; exact I'.mod.glob.keeps I'.bk) hm q) hdb
  refine ld ?_
  rcases h with ⟨hx, h⟩ | ⟨hx, h⟩
  · refine (PySem.W.exm_one I'.kIn LT hx).here ?_
    refine codeAny_handlers_suite ?_
    obtain ⟨B, t, vs, hfl, htup, hB⟩ := F.fly
    refine lands_againW hfl fun h6 hfl6 hup => ?_
    have F6 := F.move (g0 := s'.gens) hfl htup hB (F.frF I) hfl6 hup
    have I6 := F6.inv I
    obtain ⟨oe6, hoc6, _, he6, hp6⟩ := F6.obj I
    have t6 := hsuite C ea oe6 (X.pn ++ pins ++ [(ea, oe6)]) hoc6 (by simp) [] _ σ H D (I6.toHnd ⟨he6, hp6⟩) h
    refine wpAny_mono t6 (fun fl s7 q7 => ?_) fun _ _ z => z.elim
    cases fl with
    | next => obtain ⟨σ7, H7, I7, q⟩ := q7; exact ⟨σ7, H7, I7.ofHnd I.ok.hd, q⟩
    | brk => obtain ⟨σ7, H7, I7, q⟩ := q7; exact ⟨σ7, H7, I7.ofHnd I.ok.hd, q⟩
    | cont => obtain ⟨σ7, H7, I7, q⟩ := q7; exact ⟨σ7, H7, I7.ofHnd I.ok.hd, q⟩
    | ret v => obtain ⟨y, σ7, H7, I7, r, q⟩ := q7; exact ⟨y, σ7, H7, I7.ofHnd I.ok.hd, r, q⟩
  · refine (PySem.W.exm_one I'.kIn LT hx).here ?_
    exact hrest C ea pins s s' σ H0 H D I F h


end

/-! ### try: .. except .. -/
def tTry (tb : (St → XK) → TS) (th : TH) : TS := fun D σ H => tb (fun σ' cls _ H' => ∃ C, cls = .ref C ∧ ∀ ea, th C ea D σ' H') D σ H
theorem ps_try {X : Cx} {body : List Stmt} {h₀ : ExceptHandler} {hs : List ExceptHandler} {pos : Pos} {tb : (St → XK) → TS} {th : TH} (hst : X.stack = X.env :: X.outer) (hf : X.env.frame = some X.env.locals)
    (hb : ∀ pn W E, PassesS (CX1 X.prog X.w) (X.tryC pn W) E → PSs (X.tryC pn W) body (tb E)) (hh : PH X (h₀ :: hs) th) : PS X (.Try body (h₀ :: hs) [] [] pos) (tTry tb th) := by
  intro pins s σ H D I h
  refine wpAny_Try_except ?_
  have IY := I.toTry (fun e s₁ => wpAny (model X.prog X.w) X.A (noteFrame e X.env) (fun _ s₂ => wpAny (model X.prog X.w) X.A (setFlight e none) (fun _ s₃ => wpAny (model X.prog X.w) X.A (handleBy e X.env (h₀ :: hs)) (SP X pins D) X.xe s₃) X.xe s₂) X.xe s₁)
  have t1 := hb (X.pn ++ pins) _ (fun σ' cls _ H' => ∃ C, cls = .ref C ∧ ∀ ea, th C ea D σ' H') (fun pins' σ' H1 s1 e s' I1 hc => ?_) [] s σ H D IY h
  · refine wpAny_mono t1 (fun fl s2 q2 => ?_) fun _ _ z => z
    cases fl with
    | next => obtain ⟨σ7, H7, I8, q⟩ := q2; exact wpAny_execs_nil ⟨σ7, H7, I8.ofTry, q⟩
    | brk => obtain ⟨σ7, H7, I8, q⟩ := q2; exact ⟨σ7, H7, I8.ofTry, q⟩
    | cont => obtain ⟨σ7, H7, I8, q⟩ := q2; exact ⟨σ7, H7, I8.ofTry, q⟩
    | ret v => obtain ⟨y, σ7, H7, I8, r, q⟩ := q2; exact ⟨y, σ7, H7, I8.ofTry, r, q⟩
  · obtain ⟨ea, C, H', rfl, F, C', hC', hth⟩ := hc
    cases hC'
    have I2 : Inv X pins σ' H1 s1 := I1.ofTry
    have F : Flies X.prog X.w X.stack H1 s1 H' ea C s' := F
    obtain ⟨B, t, vs, hfl, htup, hB⟩ := id F.fly
    have hfl' := hfl
    rw [hst] at hfl'
    show wpAny (model X.prog X.w) X.A (noteFrame (.ref ea) X.env) _ _ _
    refine wpAny_looks_onW (by have := I2.ok.frames; rw [hst] at this; exact this) hf hfl' fun h4 hheld hup4 => ?_
    refine wpAny_landsW hheld fun h5 hfl5 hup5 => ?_
    have F5 : Flies X.prog X.w X.stack H1 s1 H' ea C { s' with heap := h5 } := F.move (g0 := s'.gens) hfl htup hB (F.frF I2) (by rw [hst]; exact hfl5) (hup4.trans hup5)
    exact hh C ea pins s1 _ σ' H1 H' D I2 F5 (hth ea)
end L2
namespace L2
open PySem PySem.Spec PyProof.Rows
/-! ### isinstance(e, C) of an own exception that an except clause has named -/
section
variable {prog : Program} {w : World} {A : Around} {E : Value → Shared → Prop} {R : Result → Shared → Prop} {K : PySem.W.Frag} {x C : Addr}
/-- what the text must have of an own exception class -/
structure ExcK (K : PySem.W.Frag) (C : Addr) : Prop where
  exc : PySem.W.excIn K C veBm "ValueError.__new__" = true
  cls : (PySem.W.clsIn K C).isSome = true
  ga : PySem.W.findIn K (.ref C) "__getattribute__" = some (some (.builtin "BaseException.__getattribute__"))
  gh : PySem.W.findIn K (.ref C) "__getattr__" = some none
  cl : PySem.W.findIn K (.ref C) "__class__" = some (some (.builtin "object.__class__"))
  gt : PySem.W.specialIn K (.builtin "object.__class__") "__get__" = some (some (.builtin "getset_descriptor.__get__"))
  tk : PySem.W.takesIn K (.builtin "object.__class__") = some true
  mo : PySem.W.mroIn K C (.type "object") = some true
  mb : PySem.W.mroIn K C (.type "BaseException") = some true
end
section
variable {X : Cx} {K : PySem.W.Frag} {ea C : Addr} {oe : Obj}
end
end L2
namespace L2
open PySem PySem.Spec PyProof.Rows
section
variable {X : Cx} {K : PySem.W.Frag}
/-! ### a list against a list that is empty; count -/
def rNilEq (K : PySem.W.Frag) (neg : Bool) : R2 := fun x y H Q => ∃ a b xs, x = .ref a ∧ y = .ref b ∧ SqL K H a xs ∧ SqL K H b [] ∧ Q (.bl (if neg then !xs.isEmpty else xs.isEmpty)) H
theorem op_eqNil (hK : X.K = K) (hu : X.A.units < cLine) : OpR X (compareOp .Eq) (rNilEq K false) := by
  subst hK
  intro pins s σ H x y v u Q I rx ry h
  obtain ⟨a, b, xs, rfl, rfl, ha, hb, q⟩ := h
  cases rx; cases ry
  obtain ⟨its, r, pl, _⟩ := I.list ha
  obtain ⟨jts, r2, pl2, _⟩ := I.list hb
  cases r2
  cases r with
  | nil => exact SeqAt.eq_listAt (e := fun _ => true) pl.isList pl2.isList rfl hu (fun j h1 _ => absurd h1 (Nat.not_lt_zero _)) ⟨.bl true, H, I, rfl, q⟩
  | cons r1 r2 => exact SeqAt.eq_list_lengthsAt pl.isList pl2.isList (by simp) hu ⟨.bl false, H, I, rfl, q⟩
theorem op_neNil (hK : X.K = K) (hu : X.A.units < cLine) : OpR X (compareOp .NotEq) (rNilEq K true) := by
  subst hK
  intro pins s σ H x y v u Q I rx ry h
  obtain ⟨a, b, xs, rfl, rfl, ha, hb, q⟩ := h
  cases rx; cases ry
  obtain ⟨its, r, pl, _⟩ := I.list ha
  obtain ⟨jts, r2, pl2, _⟩ := I.list hb
  cases r2
  cases r with
  | nil => exact SeqAt.RcNeAt.lists (e := fun _ => true) pl.isList pl2.isList rfl hu (fun j h1 _ => absurd h1 (Nat.not_lt_zero _)) X.prog X.w X.xe _ ⟨.bl false, H, I, rfl, q⟩
  | cons r1 r2 => exact SeqAt.RcNeAt.lists_lengths pl.isList pl2.isList (by simp) hu X.prog X.w X.xe _ ⟨.bl true, H, I, rfl, q⟩
theorem Room.below {k : Nat} {A : Around} (r : Room k A) : A.units < cLine := by have := r.un; omega
end
end L2
namespace L2
open PySem PySem.Spec PyProof.Rows
/-! ### // by a positive number of at most a hundred digits -/
/-! ### comprehensions with a test -/
theorem filter_take_snoc {α : Type} {p : α → Bool} {l : List α} {i : Nat} {x : α} (h : l[i]? = some x) : (l.take (i + 1)).filter p = (l.take i).filter p ++ (if p x then [x] else []) := by
  rw [List.take_add_one, h, List.filter_append]
  congr 1
  show [x].filter p = _
  cases hp : p x <;> simp [hp]
/-- [x for x in a if p(x)], ints -/
theorem comp_filter_ints {K : PySem.W.Frag} {a : Addr} {ns : List Int} {p : Int → Bool} {tf : TT} {js : List Nat} {σ : St} {Q : Addr → Hp → Prop} {H1 : Hp} (ha : SqL K H1 a (intL ns)) (hz : ns.length ≤ sizeLine)
    (hf : ∀ x H' (Kf : Bool → Hp → Prop), Same H1 H' → Kf (p x) H' → tf (some (.int x) :: js.map fun j => (σ[j]?).join) H' Kf)
    (hQ : ∀ D H', H1 D = none → Same H1 H' → H' D = some (.lst (intL (ns.filter p))) → Q D H') :
    ∀ D, H1 D = none → ∃ W : Nat → Nat → List V → Hp → Prop, (∃ m, W 0 m [] (upd H1 D (.lst []))) ∧
      ∀ i m ys H, W i m ys H → ((Itl K a).stop i H ∧ Q D H) ∨ ((Itl K a).go i H ∧ ∀ x H', (Itl K a).yld i H x H' → gName 0 x (blkSt 1 js σ) H' fun σ2 H2 => stSub (blkSt 1 js σ) σ2 ∧
        tf σ2 H2 fun b H3 => if b = true then tVar 0 σ2 H3 fun y H4 => H4 D = some (.lst ys) ∧ ys.length < sizeLine ∧ ∃ m', m' < m ∧ W (i + 1) m' (ys ++ [y]) (upd H4 D (.lst (ys ++ [y])))
          else ∃ m', m' < m ∧ W (i + 1) m' ys H3) := by
  intro D hD
  refine comp_by ns.length (fun i ys H => ys = intL ((ns.take i).filter p) ∧ H D = some (.lst ys) ∧ Same H1 H) ⟨rfl, upd_same, same_new hD _⟩ ?_ ?_
  · rintro i ys H Nx hi ⟨rfl, hDs, hS⟩ nx
    have gx : (intL ns)[i]? = some (.int ns[i]) := by rw [List.getElem?_map, List.getElem?_eq_getElem hi]; rfl
    refine ⟨⟨_, _, hS.seq ha, gx⟩, ?_⟩
    rintro x H' ⟨rfl, hx⟩
    have hx' := hx _ (hS.seq ha)
    rw [gx] at hx'
    cases hx'
    have hfl : ((ns.take i).filter p).length ≤ i := Nat.le_trans (List.length_filter_le _ _) (by rw [List.length_take]; omega)
    refine ⟨stSub.refl _, hf ns[i] _ _ hS ?_⟩
    cases hp : p ns[i] with
    | true =>
      refine iteT ⟨_, rfl, hDs, by rw [ints_len]; omega, nx _ _ ⟨?_, upd_same, same_upd hS hD⟩⟩
      rw [filter_take_snoc (List.getElem?_eq_getElem hi), hp, if_pos rfl, ints_snoc]
    | false =>
      refine iteF (nx _ _ ⟨?_, hDs, hS⟩)
      rw [filter_take_snoc (List.getElem?_eq_getElem hi), hp, if_neg (by decide), List.append_nil]
  · rintro ys H ⟨rfl, hDs, hS⟩
    refine ⟨⟨_, hS.seq ha, by rw [ints_len]; exact Nat.le_refl _⟩, hQ D H hD hS ?_⟩
    rw [hDs, List.take_of_length_le (Nat.le_refl _)]
/-- [k for k in range(n) if p(k)] -/
theorem comp_filter_range {n : Nat} {p : Nat → Bool} {tf : TT} {js : List Nat} {σ : St} {Q : Addr → Hp → Prop} {H1 : Hp} (hz : n ≤ sizeLine)
    (hf : ∀ (i : Nat) H' (Kf : Bool → Hp → Prop), i < n → Same H1 H' → Kf (p i) H' → tf (some (.int (i : Int)) :: js.map fun j => (σ[j]?).join) H' Kf)
    (hQ : ∀ D H', H1 D = none → Same H1 H' → H' D = some (.lst (((List.range n).filter p).map fun k : Nat => V.int (k : Int))) → Q D H') :
    ∀ D, H1 D = none → ∃ W : Nat → Nat → List V → Hp → Prop, (∃ m, W 0 m [] (upd H1 D (.lst []))) ∧
      ∀ i m ys H, W i m ys H → ((Itr 0 n).stop i H ∧ Q D H) ∨ ((Itr 0 n).go i H ∧ ∀ x H', (Itr 0 n).yld i H x H' → gName 0 x (blkSt 1 js σ) H' fun σ2 H2 => stSub (blkSt 1 js σ) σ2 ∧
        tf σ2 H2 fun b H3 => if b = true then tVar 0 σ2 H3 fun y H4 => H4 D = some (.lst ys) ∧ ys.length < sizeLine ∧ ∃ m', m' < m ∧ W (i + 1) m' (ys ++ [y]) (upd H4 D (.lst (ys ++ [y])))
          else ∃ m', m' < m ∧ W (i + 1) m' ys H3) := by
  intro D hD
  refine comp_by n (fun i ys H => ys = (((List.range n).take i).filter p).map (fun k : Nat => V.int (k : Int)) ∧ H D = some (.lst ys) ∧ Same H1 H) ⟨rfl, upd_same, same_new hD _⟩ ?_ ?_
  · rintro i ys H Nx hi ⟨rfl, hDs, hS⟩ nx
    refine ⟨hi, ?_⟩
    rintro x H' ⟨rfl, rfl⟩
    have e0 : (0 : Int) + (i : Int) = (i : Int) := Int.zero_add _
    have hg : (List.range n)[i]? = some i := List.getElem?_range hi
    have hfl : (((List.range n).take i).filter p).length ≤ i := Nat.le_trans (List.length_filter_le _ _) (by rw [List.length_take]; omega)
    refine ⟨stSub.refl _, ?_⟩
    show tf (some (.int (0 + (i : Int))) :: js.map fun j => (σ[j]?).join) H' _
    rw [e0]
    refine hf i _ _ hi hS ?_
    cases hp : p i with
    | true =>
      refine iteT ⟨_, rfl, hDs, by rw [List.length_map]; omega, nx _ _ ⟨?_, upd_same, same_upd hS hD⟩⟩
      rw [filter_take_snoc hg, hp, if_pos rfl, List.map_append]
      rfl
    | false =>
      refine iteF (nx _ _ ⟨?_, hDs, hS⟩)
      rw [filter_take_snoc hg, hp, if_neg (by decide), List.append_nil]
  · rintro ys H ⟨rfl, hDs, hS⟩
    refine ⟨Nat.le_refl _, hQ D H hD hS ?_⟩
    rw [hDs, List.take_of_length_le (by rw [List.length_range]; exact Nat.le_refl _)]
end L2
namespace L2
open PySem PySem.Spec PyProof.Rows
theorem refs_set (xs : List Addr) (i : Nat) (x : Addr) : (refL xs).set i (.ref x) = refL (xs.set i x) := by simp [refL]
theorem Rows.setr {H : Hp} : ∀ {rs : List Addr} {xss : List (List Int)} {i : Nat} {r : Addr} {x : List Int}, Rows H rs xss → H r = some (.lst (intL x)) → Rows H (rs.set i r) (xss.set i x)
  | [], [], _, _, _, _, _ => trivial
  | _ :: _, _ :: _, 0, _, _, h, e => ⟨e, h.2⟩
  | _ :: rs, _ :: xss, i + 1, r, x, h, e => ⟨h.1, Rows.setr (rs := rs) (xss := xss) (i := i) h.2 e⟩
  | [], _ :: _, _, _, _, h, _ => h.elim
  | _ :: _, [], _, _, _, h, _ => h.elim
/-- [list(row) for row in rows] -/
theorem copy_rows {K : PySem.W.Frag} {a : Addr} {rs : List Addr} {xss : List (List Int)} {js : List Nat} {σ : St} {Q : Addr → Hp → Prop} {H : Hp} (hS : SqL K H a (refL rs)) (hR : Rows H rs xss) (hz : xss.length ≤ 1000)
    (q : ∀ H' L qs, Same H H' → H' L = some (.lst (refL qs)) → Rows H' qs xss → H L = none → (∀ r ∈ qs, H r = none) → L ∉ qs → qs.Nodup → Q L H') :
    ∀ D, H D = none → ∃ W : Nat → Nat → List V → Hp → Prop, (∃ m, W 0 m [] (upd H D (.lst []))) ∧
      ∀ i m ys H, W i m ys H → ((Itl K a).stop i H ∧ Q D H) ∨ ((Itl K a).go i H ∧ ∀ x H', (Itl K a).yld i H x H' → gName 0 x (blkSt 1 js σ) H' fun σ2 H2 => stSub (blkSt 1 js σ) σ2 ∧
        tYes σ2 H2 fun b H3 => if b = true then tCB (fun xs H Q => ∃ p ys, xs = [.ref p] ∧ (SqL K H p ys ∨ SqT K H p ys) ∧ ∀ l, H l = none → Q (.ref l) (upd H l (.lst ys))) (tCons (tVar 0) tNil) σ2 H3 fun y H4 => H4 D = some (.lst ys) ∧ ys.length < sizeLine ∧ ∃ m', m' < m ∧ W (i + 1) m' (ys ++ [y]) (upd H4 D (.lst (ys ++ [y])))
          else ∃ m', m' < m ∧ W (i + 1) m' ys H3) := by
  intro D hD
  refine comp_by xss.length (fun i ys H' => ∃ qs, ys = refL qs ∧ H' D = some (.lst (refL qs)) ∧ Rows H' qs (xss.take i) ∧ Same H H' ∧ (∀ r ∈ qs, H r = none) ∧ D ∉ qs ∧ qs.Nodup) ⟨[], rfl, upd_same, trivial, same_new hD _, by simp, by simp, by simp⟩ ?_ ?_
  · rintro i ys H' Nx hi ⟨qs, rfl, hDs, hRq, sm, hfr, hDq, hnd⟩ nx
    obtain ⟨r, er, hr'⟩ := hR.get (List.getElem?_eq_getElem hi)
    have gr : (refL rs)[i]? = some (.ref r) := by rw [List.getElem?_map, er]; rfl
    refine ⟨⟨_, _, sm.seq hS, gr⟩, ?_⟩
    rintro x H2 ⟨rfl, hx⟩
    have hx' := hx _ (sm.seq hS)
    rw [gr] at hx'
    cases hx'
    refine ⟨stSub.refl _, tYes_of ?_⟩
    refine ⟨_, rfl, r, _, rfl, .inl (SqL.of (sm _ _ hr')), fun p hp => ?_⟩
    have s2 := same_new hp (.lst (intL xss[i]))
    have hpD : p ≠ D := fun e => by rw [e, hDs] at hp; cases hp
    have hpq : p ∉ qs := hRq.fresh hp
    refine ⟨s2 _ _ hDs, ?_, nx _ _ ⟨qs ++ [p], refs_snoc _ _, by rw [upd_same, refs_snoc], ?_, same_upd (sm.trans s2) hD, ?_, ?_, ?_⟩⟩
    · rw [refs_len, hRq.len, List.length_take]
      exact small1000 (by omega)
    · rw [List.take_add_one, List.getElem?_eq_getElem hi]
      refine Rows.updt (Rows.snoc (hRq.same s2) upd_same) ?_
      rw [List.mem_append]
      rintro (z | z)
      · exact hDq z
      · exact hpD (List.mem_singleton.mp z).symm
    · intro r2 hr2
      rcases List.mem_append.mp hr2 with z | z
      · exact hfr r2 z
      · rw [List.mem_singleton.mp z]; exact sm.free hp
    · rw [List.mem_append]
      rintro (z | z)
      · exact hDq z
      · exact hpD (List.mem_singleton.mp z).symm
    · rw [List.nodup_append]
      exact ⟨hnd, by simp, fun a ha b hb => by rw [List.mem_singleton.mp hb]; exact fun e => hpq (e ▸ ha)⟩
  · rintro ys H' ⟨qs, rfl, hDs, hRq, sm, hfr, hDq, hnd⟩
    rw [List.take_of_length_le (Nat.le_refl _)] at hRq
    refine ⟨⟨_, sm.seq hS, ?_⟩, q H' D qs sm hDs hRq hD hfr hDq hnd⟩
    rw [refs_len, hR.len]; exact Nat.le_refl _
end L2
namespace L2
open PySem PySem.Spec PyProof.Rows
/-! ### the yard's refusals -/
inductive Xk where
  | noWorker | noAmount | overClaim | notFree | knotted | notLent
  deriving DecidableEq
def Xk.all : List Xk := [.noWorker, .noAmount, .overClaim, .notFree, .knotted, .notLent]
theorem Xk.mem (i : Xk) : i ∈ Xk.all := by cases i <;> simp [Xk.all]
structure CA where
  LoanError : Addr
  NoWorker : Addr
  NoAmount : Addr
  OverClaim : Addr
  NotFree : Addr
  Knotted : Addr
  NotLent : Addr
def CA.at (c : CA) : Xk → Addr
  | .noWorker => c.NoWorker
  | .noAmount => c.NoAmount
  | .overClaim => c.OverClaim
  | .notFree => c.NotFree
  | .knotted => c.Knotted
  | .notLent => c.NotLent
def excKb (K : PySem.W.Frag) (C : Addr) : Bool := PySem.W.excIn K C veBm "ValueError.__new__" && (PySem.W.clsIn K C).isSome && (PySem.W.findIn K (.ref C) "__getattribute__" == some (some (.builtin "BaseException.__getattribute__")))
  && (PySem.W.findIn K (.ref C) "__getattr__" == some none) && (PySem.W.findIn K (.ref C) "__class__" == some (some (.builtin "object.__class__"))) && (PySem.W.specialIn K (.builtin "object.__class__") "__get__" == some (some (.builtin "getset_descriptor.__get__")))
  && (PySem.W.takesIn K (.builtin "object.__class__") == some true) && (PySem.W.mroIn K C (.type "object") == some true) && (PySem.W.mroIn K C (.type "BaseException") == some true)
theorem excK_of {K : PySem.W.Frag} {C : Addr} (h : excKb K C = true) : ExcK K C := by
  unfold excKb at h
  simp only [Bool.and_eq_true, beq_iff_eq] at h
  obtain ⟨⟨⟨⟨⟨⟨⟨⟨h1, h2⟩, h3⟩, h4⟩, h5⟩, h6⟩, h7⟩, h8⟩, h9⟩ := h
  exact ⟨h1, h2, h3, h4, h5, h6, h7, h8, h9⟩
def excTab (K : PySem.W.Frag) (c : CA) : Bool := Xk.all.all fun i => excKb K (c.at i) && (PySem.W.exmOne K (.ref (c.at i)) (.ref c.LoanError) == some true) && (PySem.W.kitOne K (.ref (c.at i)) (.type "ValueError") == some true)
  && Xk.all.all fun j => (PySem.W.kitOne K (.ref (c.at i)) (.ref (c.at j)) == some (decide (i = j))) && (PySem.W.exmOne K (.ref (c.at i)) (.ref (c.at j)) == some (decide (i = j)))
structure CK (K : PySem.W.Frag) (mg : Str → Option Value) (c : CA) : Prop where
  LoanError : mg "LoanError" = some (.ref c.LoanError)
  NoWorker : mg "NoWorker" = some (.ref c.NoWorker)
  NoAmount : mg "NoAmount" = some (.ref c.NoAmount)
  OverClaim : mg "OverClaim" = some (.ref c.OverClaim)
  NotFree : mg "NotFree" = some (.ref c.NotFree)
  Knotted : mg "Knotted" = some (.ref c.Knotted)
  NotLent : mg "NotLent" = some (.ref c.NotLent)
  tab : excTab K c = true
section
variable {K : PySem.W.Frag} {mg : Str → Option Value} {c : CA}
theorem CK.row (k : CK K mg c) (i : Xk) : ExcK K (c.at i) ∧ PySem.W.exmOne K (.ref (c.at i)) (.ref c.LoanError) = some true ∧ PySem.W.kitOne K (.ref (c.at i)) (.type "ValueError") = some true ∧
    ∀ j, PySem.W.kitOne K (.ref (c.at i)) (.ref (c.at j)) = some (decide (i = j)) ∧ PySem.W.exmOne K (.ref (c.at i)) (.ref (c.at j)) = some (decide (i = j)) := by
  have h := List.all_eq_true.mp k.tab i i.mem
  simp only [Bool.and_eq_true, beq_iff_eq] at h
  obtain ⟨⟨⟨h1, h2⟩, h3⟩, h4⟩ := h
  refine ⟨excK_of h1, h2, h3, fun j => ?_⟩
  have q := List.all_eq_true.mp h4 j j.mem
  simp only [Bool.and_eq_true, beq_iff_eq] at q
  exact q
theorem CK.exc (k : CK K mg c) (i : Xk) : ExcK K (c.at i) := (k.row i).1
theorem CK.exm (k : CK K mg c) (i j : Xk) : PySem.W.exmOne K (.ref (c.at i)) (.ref (c.at j)) = some (decide (i = j)) := ((k.row i).2.2.2 j).2
end
end L2
namespace L2
open PySem PySem.Spec PyProof.Rows
abbrev natL (ns : List Nat) : List V := ns.map fun k : Nat => V.int (k : Int)
theorem nats_len (ns : List Nat) : (natL ns).length = ns.length := List.length_map _
theorem nats_get {ns : List Nat} {i : Nat} {x : V} (h : (natL ns)[i]? = some x) : ∃ k, ns[i]? = some k ∧ x = .int (k : Int) := by
  rw [List.getElem?_map] at h
  cases e : ns[i]? with
  | none => rw [e] at h; cases h
  | some k => rw [e] at h; cases h; exact ⟨k, rfl, rfl⟩
theorem nats_snoc (xs : List Nat) (x : Nat) : natL xs ++ [.int (x : Int)] = natL (xs ++ [x]) := by simp [natL]
theorem nats_cat (xs ys : List Nat) : natL xs ++ natL ys = natL (xs ++ ys) := by simp [natL]
theorem nats_in (x : Nat) (xs : List Nat) : inV (.int (x : Int)) (natL xs) = decide (x ∈ xs) := by
  induction xs with
  | nil => rfl
  | cons y xs ih =>
    have e : inV (.int (x : Int)) (natL (y :: xs)) = (((y : Int) == (x : Int)) || inV (.int (x : Int)) (natL xs)) := rfl
    rw [e, ih]
    by_cases h : y = x
    · subst h; simp
    · have h1 : ((y : Int) == (x : Int)) = false := by simp; omega
      rw [h1, Bool.false_or]
      have : x ∈ y :: xs ↔ x ∈ xs := by
        rw [List.mem_cons]
        exact ⟨fun z => z.resolve_left fun c => h c.symm, .inr⟩
      by_cases c : x ∈ xs
      · rw [decide_eq_true c, decide_eq_true (this.mpr c)]
      · rw [decide_eq_false c, decide_eq_false fun z => c (this.mp z)]
theorem nats_flat (xs : List Nat) : (natL xs).all flatV = true := by
  rw [List.all_eq_true]
  intro v hv
  obtain ⟨k, _, rfl⟩ := List.mem_map.mp hv
  rfl
theorem Rows.of_get {H : Hp} : ∀ {rs : List Addr} {xss : List (List Int)}, rs.length = xss.length → (∀ (i : Nat) r, rs[i]? = some r → ∃ x, xss[i]? = some x ∧ H r = some (.lst (intL x))) → Rows H rs xss
  | [], [], _, _ => trivial
  | r :: rs, x :: xss, hl, h => by
    obtain ⟨y, e, hy⟩ := h 0 r rfl
    cases e
    exact ⟨hy, Rows.of_get (by simpa using hl) fun i r' e => h (i + 1) r' e⟩
  | [], _ :: _, h, _ => by simp at h
  | _ :: _, [], h, _ => by simp at h
section
variable {X : Cx} {K : PySem.W.Frag}
/-! ### any of a list of truths -/
theorem boolsV : ∀ {bs : List Bool} {us : List Value}, Vals (bs.map V.bl) us → LSm.BoolsAre us bs
  | [], _, .nil => .nil
  | b :: bs, _, .cons r t => by
    cases r
    exact .cons b (boolsV t)
theorem call_anyK (hK : X.K = K) (hc : X.calm = true) : CallR X (.builtin "any") (fun xs H Q => ∃ (p : Addr) (bs : List Bool), xs = [.ref p] ∧ SqL K H p (bs.map V.bl) ∧ Q (.bl (bs.any id)) H) := by
  subst hK
  intro pins s σ H xs us Q I r h
  obtain ⟨p, bs, rfl, hq, q⟩ := h
  obtain ⟨u, rfl, rx⟩ := vals1 r
  cases rx
  obtain ⟨its, r', pl, hz⟩ := I.list hq
  have hb := boolsV r'
  have hl := pl.isList
  have hlt : p < s.heap.objs.size := by
    obtain ⟨_, e, _⟩ := hl
    exact Heap.lt_size e
  have hw := Walks.list (prog := X.prog) (w := X.w) (A := X.A.in1) (I.ok.hd hc) s.heap.objs.size p (Nat.ne_of_lt hlt) its.toArray
  refine call_any_walk (wpAny_pyIter_list hl ⟨s.heap.objs.size, _, _, its.toArray.size, _, _, fun i => (bs[i]?).getD false, rfl, hw, ⟨⟨_, Heap.get?_push_size _ rfl, rfl, rfl⟩, hl.push _⟩, ?_, ?_⟩)
  · intro i v s' Q' E' hP hQ
    obtain ⟨b, e, rfl⟩ := hb.get i v (by simpa using hP)
    dsimp only at hQ
    rw [e] at hQ
    exact wpAny_truthy_bool hQ
  · intro h' tk hk
    have e : ((List.range its.toArray.size).any fun i => (bs[i]?).getD false) = bs.any id := by
      rw [List.size_toArray, hb.length]
      exact LSm.range_any bs
    rw [e]
    exact ⟨.bl (bs.any id), H, I.kept (LSm.kept_iter hk), rfl, q⟩
/-! ### the least of a list of ints (one of them) -/
theorem call_minLK (hK : X.K = K) (hc : X.calm = true) : CallR X (.builtin "min") (fun xs H Q => ∃ (p : Addr) (ns : List Int), xs = [.ref p] ∧ SqL K H p (intL ns) ∧ 0 < ns.length ∧ ∀ v, v ∈ ns → Q (.int v) H) := by
  subst hK
  intro pins s σ H xs us Q I r h
  obtain ⟨p, ns, rfl, hq, hne, q⟩ := h
  obtain ⟨u, rfl, rx⟩ := vals1 r
  cases rx
  obtain ⟨its, r', pl, hz⟩ := I.list hq
  have hl := pl.isList
  have hlen := r'.length
  rw [ints_len] at hlen
  have hall : AllInts its.toArray := (intsAre_of r').allInts
  obtain ⟨ys, e⟩ := hall.items
  have hsz : ys.size = its.length := by
    have := congrArg Array.size e
    simp [intItems] at this
    omega
  rw [e] at hl
  refine min_intList (I.ok.hd hc) hl (by omega) fun v h' tk hv hk => ?_
  rw [← e, ← Array.getElem?_toList] at hv
  have hi := (List.getElem?_eq_some_iff.mp hv).1
  generalize argBest (fun i j => decide (numAt ys i < numAt ys j)) (ys.size - 1) = i at *
  have hi' : i < ns.length := by
    have : its.toArray.toList.length = its.length := rfl
    omega
  obtain ⟨w, hw, rw'⟩ := r'.get (i := i) (x := .int ns[i]) (by rw [List.getElem?_map, List.getElem?_eq_getElem hi']; rfl)
  have : w = v := by
    have e2 : its.toArray.toList[i]? = some w := hw
    rw [hv] at e2
    cases e2
    rfl
  subst this
  exact ⟨.int ns[i], H, I.kept hk, rw', q _ (List.getElem_mem hi')⟩
/-! ### list(range(n)) -/
theorem natsV {acc : Array Value} {n : Nat} (h : ItemsOf (fun i v => ∃ t, v = .int (0 + i * 1) t) acc n) : Vals (natL (List.range n)) acc.toList := by
  obtain ⟨hl, hv⟩ := h
  have key : ∀ (us : List Value) (k n : Nat), us.length = n → (∀ (j : Nat) v, us[j]? = some v → ∃ t, v = .int ((k + j : Nat) : Int) t) → Vals ((List.range' k n).map fun k : Nat => V.int (k : Int)) us := by
    intro us
    induction us with
    | nil => intro k n e _; subst e; exact .nil
    | cons u us ih =>
      intro k n e hj
      subst e
      obtain ⟨t, ht⟩ := hj 0 u rfl
      refine .cons ⟨t, ?_⟩ (ih (k + 1) us.length rfl fun j v e => ?_)
      · rw [ht]; simp
      · obtain ⟨t', ht'⟩ := hj (j + 1) v e
        exact ⟨t', by rw [ht']; congr 1; omega⟩
  rw [natL, List.range_eq_range']
  refine key _ 0 n (by rw [Array.length_toList]; exact hl) fun j v e => ?_
  obtain ⟨t, ht⟩ := hv j v (by rw [← Array.getElem?_toList]; exact e)
  exact ⟨t, by rw [ht]; congr 1; simp⟩
def tListRange (ta : TA) : TE := fun σ H Q => ta σ H fun vs H1 => ∃ n : Nat, vs = [.int (n : Int)] ∧ n ≤ 1000 ∧ ∀ l, H1 l = none → Q (.ref l) (upd H1 l (.lst (natL (List.range n))))
theorem pe_listRange {a : Expr} {ta : TA} {p p2 pos pos2 : Pos} (hc : X.calm = true) (hg : Gl X "list") (hm : X.mg "list" = none) (hg2 : Gl X "range") (hm2 : X.mg "range" = none) (ha : PA X [a] ta)
    (hs : starEach [Expr.Call (.Name "range" p2) [a] [] pos2] X.env = [(false, eval (Expr.Call (.Name "range" p2) [a] [] pos2) X.env)] := by rfl) (hs2 : starEach [a] X.env = [(false, eval a X.env)] := by rfl) :
    PE X (.Call (.Name "list" p) [.Call (.Name "range" p2) [a] [] pos2] [] pos) (tListRange ta) := by
  intro pins s σ H Q I h
  refine wpAny_Call_Name_kw (ld_blt I hg hm BootN.list ?_)
  refine PyProof.Rows.callWith_type1 ?_ hs rfl
  rw [hs]
  show wpAny _ _ (spliced ((false, eval (Expr.Call (.Name "range" p2) [a] [] pos2) X.env) :: [])) _ _ s
  refine Calls.spliced_cons (Call_ (ld_blt I hg2 hm2 boot_range (PyProof.Rows.callWith_type1 (thn (ha pos2 pins s σ H _ I h) fun us s1 ⟨vs, H1, I1, r1, n, e, hn, q⟩ => ?_) hs2 rfl)))
  subst e
  obtain ⟨u, rfl, t, rfl⟩ := vals1 r1
  refine call_range_1 (Calls.spliced_nil ?_)
  have I2 : Inv X pins σ H1 { s1 with heap := s1.heap.push { cls := .type "range", data := .fields #[.int 0 s1.toks, .int n t, .int 1 (s1.toks + 1)] }, toks := s1.toks + 1 + 1 } := I1.kept fun b o e => Heap.get?_push_of_some _ e
  refine call_list_range (n := n) (I2.ok.hd hc) (IsRange.new ..) (small_one (by omega) (by omega) (by omega) (by omega)) (by rw [rangeSize_one]; split <;> omega) (by omega) fun h' tk acc c hk hD hI => ?_
  refine ⟨.ref _, _, I2.laid hk (Nat.le_refl _) ?_, rfl, q _ (I2.hok.fresh (Nat.le_refl _))⟩
  exact ⟨by rw [nats_len, List.length_range]; exact small hn, acc.toList, c, natsV hI, by rw [Array.toArray_toList]; exact hD⟩
/-! ### extend -/
theorem pe_extendK {o e : Expr} {to : TE} {t : TA} {apos cpos : Pos} (hK : X.K = K) (ho : PE X o to) (ha : PA X [e] t)
    (hbase : attributeBase o "extend" X.env (eval o X.env) = eval o X.env := by rfl)
    (hfew : ((backTo cpos (starEach [e] X.env)).all (fun x => !x.1) && (backToKw cpos (keywordEach [] X.env)).all (fun x => x.1.isSome)
      && decide (([e] : List Expr).length + ([] : List Keyword).length + (if ([] : List Keyword).isEmpty then 0 else 1) < 30)) = true := by rfl)
    (hline : (apos.endLine == cpos.line) = true := by rfl) (hs : starEach [e] X.env = (false, eval e X.env) :: starEach [] X.env := by rfl) :
    PE X (.Call (.Attribute o "extend" apos) [e] [] cpos) (tBM K "list" rExtend to t) := by
  subst hK
  exact pe_bm F.plainAttrs_list F.slot_list_extend F.type_list_extend mt_extend ho ha hbase hfew hline hs rfl
/-! ### the truth of a value, the fragment as a letter -/
def tTru (K : PySem.W.Frag) (ta : TE) : TT := fun σ H Q => ta σ H fun x H' => ∃ k, TruV K x H' k ∧ Q k H'
theorem pt_truthK {a : Expr} {ta : TE} (hK : X.K = K) (ha : PE X a ta) (he : ∀ whole, isTrue a X.env whole = (do let v ← whole; standAt a.pos; holding [v] (truthy v))) : PT X a (tTru K ta) := by
  subst hK
  exact pt_truth ha he
end
/-! ### comprehensions over a list: what is made is told turn by turn -/
/-- [.. for x in a], each item a value y of ys -/
theorem comp_list_vals {K : PySem.W.Frag} {a : Addr} {xs ys : List V} {te : TE} {js : List Nat} {σ : St} {Q : Addr → Hp → Prop} {H1 : Hp} (ha : SqL K H1 a xs) (hl : ys.length = xs.length) (hz : xs.length ≤ sizeLine)
    (he : ∀ (i : Nat) x y H' (Kx : VK), xs[i]? = some x → ys[i]? = some y → Same H1 H' → (∀ H'', Same H' H'' → Kx y H'') → te (some x :: js.map fun j => (σ[j]?).join) H' Kx)
    (hQ : ∀ D H', H1 D = none → Same H1 H' → H' D = some (.lst ys) → Q D H') :
    ∀ D, H1 D = none → ∃ W : Nat → Nat → List V → Hp → Prop, (∃ m, W 0 m [] (upd H1 D (.lst []))) ∧
      ∀ i m ys H, W i m ys H → ((Itl K a).stop i H ∧ Q D H) ∨ ((Itl K a).go i H ∧ ∀ x H', (Itl K a).yld i H x H' → gName 0 x (blkSt 1 js σ) H' fun σ2 H2 => stSub (blkSt 1 js σ) σ2 ∧
        tYes σ2 H2 fun b H3 => if b = true then te σ2 H3 fun y H4 => H4 D = some (.lst ys) ∧ ys.length < sizeLine ∧ ∃ m', m' < m ∧ W (i + 1) m' (ys ++ [y]) (upd H4 D (.lst (ys ++ [y])))
          else ∃ m', m' < m ∧ W (i + 1) m' ys H3) := by
  intro D hD
  refine comp_by xs.length (fun i zs H' => zs = ys.take i ∧ H' D = some (.lst zs) ∧ Same H1 H') ⟨rfl, upd_same, same_new hD _⟩ ?_ ?_
  · rintro i zs H Nx hi ⟨rfl, hDs, hS⟩ nx
    have gx : xs[i]? = some xs[i] := List.getElem?_eq_getElem hi
    have gy : ys[i]? = some ys[i] := List.getElem?_eq_getElem (by omega)
    refine ⟨⟨_, _, hS.seq ha, gx⟩, ?_⟩
    rintro x H' ⟨rfl, hx⟩
    have hx' := hx _ (hS.seq ha)
    rw [gx] at hx'
    cases hx'
    refine ⟨stSub.refl _, tYes_of ?_⟩
    refine he i xs[i] ys[i] _ _ gx gy hS fun H'' s2 => ⟨s2 _ _ hDs, ?_, nx _ _ ⟨?_, upd_same, same_upd (hS.trans s2) hD⟩⟩
    · rw [List.length_take]; omega
    · rw [List.take_add_one, gy]; rfl
  · rintro zs H ⟨rfl, hDs, hS⟩
    refine ⟨⟨_, hS.seq ha, Nat.le_refl _⟩, hQ D H hD hS ?_⟩
    rw [hDs, List.take_of_length_le (by omega)]
/-- [x for x in a if p(x)], ints, the test may make objects -/
theorem comp_filter_nats {K : PySem.W.Frag} {a : Addr} {ns : List Nat} {p : Nat → Bool} {tf : TT} {js : List Nat} {σ : St} {Q : Addr → Hp → Prop} {H1 : Hp} (ha : SqL K H1 a (natL ns)) (hz : ns.length ≤ sizeLine)
    (hf : ∀ (x : Nat) H' (Kf : Bool → Hp → Prop), x ∈ ns → Same H1 H' → (∀ H'', Same H' H'' → Kf (p x) H'') → tf (some (.int (x : Int)) :: js.map fun j => (σ[j]?).join) H' Kf)
    (hQ : ∀ D H', H1 D = none → Same H1 H' → H' D = some (.lst (natL (ns.filter p))) → Q D H') :
    ∀ D, H1 D = none → ∃ W : Nat → Nat → List V → Hp → Prop, (∃ m, W 0 m [] (upd H1 D (.lst []))) ∧
      ∀ i m ys H, W i m ys H → ((Itl K a).stop i H ∧ Q D H) ∨ ((Itl K a).go i H ∧ ∀ x H', (Itl K a).yld i H x H' → gName 0 x (blkSt 1 js σ) H' fun σ2 H2 => stSub (blkSt 1 js σ) σ2 ∧
        tf σ2 H2 fun b H3 => if b = true then tVar 0 σ2 H3 fun y H4 => H4 D = some (.lst ys) ∧ ys.length < sizeLine ∧ ∃ m', m' < m ∧ W (i + 1) m' (ys ++ [y]) (upd H4 D (.lst (ys ++ [y])))
          else ∃ m', m' < m ∧ W (i + 1) m' ys H3) := by
  intro D hD
  refine comp_by ns.length (fun i ys H => ys = natL ((ns.take i).filter p) ∧ H D = some (.lst ys) ∧ Same H1 H) ⟨rfl, upd_same, same_new hD _⟩ ?_ ?_
  · rintro i ys H Nx hi ⟨rfl, hDs, hS⟩ nx
    have gx : (natL ns)[i]? = some (.int (ns[i] : Nat)) := by rw [List.getElem?_map, List.getElem?_eq_getElem hi]; rfl
    refine ⟨⟨_, _, hS.seq ha, gx⟩, ?_⟩
    rintro x H' ⟨rfl, hx⟩
    have hx' := hx _ (hS.seq ha)
    rw [gx] at hx'
    cases hx'
    have hfl : ((ns.take i).filter p).length ≤ i := Nat.le_trans (List.length_filter_le _ _) (by rw [List.length_take]; omega)
    refine ⟨stSub.refl _, hf ns[i] _ _ (List.getElem_mem hi) hS fun H'' s2 => ?_⟩
    cases hp : p ns[i] with
    | true =>
      refine iteT ⟨_, rfl, s2 _ _ hDs, by rw [nats_len]; omega, nx _ _ ⟨?_, upd_same, same_upd (hS.trans s2) hD⟩⟩
      rw [filter_take_snoc (List.getElem?_eq_getElem hi), hp, if_pos rfl, nats_snoc]
    | false =>
      refine iteF (nx _ _ ⟨?_, s2 _ _ hDs, hS.trans s2⟩)
      rw [filter_take_snoc (List.getElem?_eq_getElem hi), hp, if_neg (by decide), List.append_nil]
  · rintro ys H ⟨rfl, hDs, hS⟩
    refine ⟨⟨_, hS.seq ha, by rw [nats_len]; exact Nat.le_refl _⟩, hQ D H hD hS ?_⟩
    rw [hDs, List.take_of_length_le (Nat.le_refl _)]
/-- [.. for x in a], each item an object that is told by S (turn, its address, the list's address, the heap) -/
theorem comp_list_refs {K : PySem.W.Frag} {a : Addr} {xs : List V} (S : Nat → Addr → Addr → Hp → Prop) {te : TE} {js : List Nat} {σ : St} {Q : Addr → Hp → Prop} {H1 : Hp} (ha : SqL K H1 a xs) (hz : xs.length ≤ sizeLine)
    (hm : ∀ i r D H H', S i r D H → Same H H' → S i r D H') (hu : ∀ i r D H o, S i r D H → S i r D (upd H D o))
    (he : ∀ (i : Nat) x D o H' (Kx : VK), xs[i]? = some x → Same H1 H' → H1 D = none → H' D = some o → (∀ H'' r, Same H' H'' → S i r D H'' → Kx (.ref r) H'') → te (some x :: js.map fun j => (σ[j]?).join) H' Kx)
    (hQ : ∀ D H' ps, H1 D = none → Same H1 H' → H' D = some (.lst (refL ps)) → ps.length = xs.length → (∀ (i : Nat) r, ps[i]? = some r → S i r D H') → Q D H') :
    ∀ D, H1 D = none → ∃ W : Nat → Nat → List V → Hp → Prop, (∃ m, W 0 m [] (upd H1 D (.lst []))) ∧
      ∀ i m ys H, W i m ys H → ((Itl K a).stop i H ∧ Q D H) ∨ ((Itl K a).go i H ∧ ∀ x H', (Itl K a).yld i H x H' → gName 0 x (blkSt 1 js σ) H' fun σ2 H2 => stSub (blkSt 1 js σ) σ2 ∧
        tYes σ2 H2 fun b H3 => if b = true then te σ2 H3 fun y H4 => H4 D = some (.lst ys) ∧ ys.length < sizeLine ∧ ∃ m', m' < m ∧ W (i + 1) m' (ys ++ [y]) (upd H4 D (.lst (ys ++ [y])))
          else ∃ m', m' < m ∧ W (i + 1) m' ys H3) := by
  intro D hD
  refine comp_by xs.length (fun i zs H' => ∃ ps, zs = refL ps ∧ ps.length = i ∧ H' D = some (.lst zs) ∧ Same H1 H' ∧ ∀ k r, ps[k]? = some r → S k r D H') ⟨[], rfl, rfl, upd_same, same_new hD _, fun k r e => by simp at e⟩ ?_ ?_
  · rintro i zs H Nx hi ⟨ps, rfl, hpl, hDs, hS, hP⟩ nx
    have gx : xs[i]? = some xs[i] := List.getElem?_eq_getElem hi
    refine ⟨⟨_, _, hS.seq ha, gx⟩, ?_⟩
    rintro x H' ⟨rfl, hx⟩
    have hx' := hx _ (hS.seq ha)
    rw [gx] at hx'
    cases hx'
    refine ⟨stSub.refl _, tYes_of ?_⟩
    refine he i xs[i] D _ _ _ gx hS hD hDs fun H'' r s2 hr => ⟨s2 _ _ hDs, by rw [refs_len]; omega, nx _ _ ⟨ps ++ [r], refs_snoc _ _, by simp [hpl], upd_same, same_upd (hS.trans s2) hD, fun k r' e => hu _ _ _ _ _ ?_⟩⟩
    by_cases hk : k < ps.length
    · rw [List.getElem?_append_left hk] at e
      exact hm _ _ _ _ _ (hP k r' e) s2
    · rw [List.getElem?_append_right (by omega)] at e
      have hk' : k = ps.length := by
        have := (List.getElem?_eq_some_iff.mp e).1
        simp at this
        omega
      subst hk'
      simp at e
      subst e
      rw [hpl]
      exact hr
  · rintro zs H ⟨ps, rfl, hpl, hDs, hS, hP⟩
    exact ⟨⟨_, hS.seq ha, Nat.le_refl _⟩, hQ D H ps hD hS hDs hpl hP⟩
/-- [.. for x, y in zip(a, b)], the same -/
theorem comp_zip_refs {K : PySem.W.Frag} {a b : Addr} {xs ys : List V} (S : Nat → Addr → Addr → Hp → Prop) {te : TE} {js : List Nat} {σ : St} {Q : Addr → Hp → Prop} {H1 : Hp} (ha : SqL K H1 a xs) (hb : SqL K H1 b ys) (hl : xs.length = ys.length) (hz : xs.length ≤ sizeLine)
    (hm : ∀ i r D H H', S i r D H → Same H H' → S i r D H') (hu : ∀ i r D H o, S i r D H → S i r D (upd H D o))
    (he : ∀ (i : Nat) x y D o H' (Kx : VK), xs[i]? = some x → ys[i]? = some y → Same H1 H' → H1 D = none → H' D = some o → (∀ H'' r, Same H' H'' → S i r D H'' → Kx (.ref r) H'') → te (some x :: some y :: js.map fun j => (σ[j]?).join) H' Kx)
    (hQ : ∀ D H' ps, H1 D = none → Same H1 H' → H' D = some (.lst (refL ps)) → ps.length = xs.length → (∀ (i : Nat) r, ps[i]? = some r → S i r D H') → Q D H') :
    ∀ D, H1 D = none → ∃ W : Nat → Nat → List V → Hp → Prop, (∃ m, W 0 m [] (upd H1 D (.lst []))) ∧
      ∀ i m zs H, W i m zs H → ((Itz K a b).stop i H ∧ Q D H) ∨ ((Itz K a b).go i H ∧ ∀ x H', (Itz K a b).yld i H x H' → gTup K 2 (gCons (gName 0) (gCons (gName 1) gNil)) x (blkSt 2 js σ) H' fun σ2 H2 => stSub (blkSt 2 js σ) σ2 ∧
        tYes σ2 H2 fun b H3 => if b = true then te σ2 H3 fun y H4 => H4 D = some (.lst zs) ∧ zs.length < sizeLine ∧ ∃ m', m' < m ∧ W (i + 1) m' (zs ++ [y]) (upd H4 D (.lst (zs ++ [y])))
          else ∃ m', m' < m ∧ W (i + 1) m' zs H3) := by
  intro D hD
  refine comp_by xs.length (fun i zs H' => ∃ ps, zs = refL ps ∧ ps.length = i ∧ H' D = some (.lst zs) ∧ Same H1 H' ∧ ∀ k r, ps[k]? = some r → S k r D H') ⟨[], rfl, rfl, upd_same, same_new hD _, fun k r e => by simp at e⟩ ?_ ?_
  · rintro i zs H Nx hi ⟨ps, rfl, hpl, hDs, hS, hP⟩ nx
    have gx : xs[i]? = some xs[i] := List.getElem?_eq_getElem hi
    have gy : ys[i]? = some ys[i] := List.getElem?_eq_getElem (by omega)
    refine ⟨⟨_, _, _, _, hS.seq ha, hS.seq hb, gx, gy⟩, ?_⟩
    rintro v H' ⟨T, x, y, hT, rfl, rfl, ex, ey⟩
    have ex' := ex _ (hS.seq ha)
    have ey' := ey _ (hS.seq hb)
    rw [gx] at ex'; rw [gy] at ey'
    cases ex'; cases ey'
    have s1 : Same H (upd H T (.tup [xs[i], ys[i]])) := same_new hT _
    refine ⟨T, _, rfl, .inl (.inl upd_same), rfl, _, _, rfl, _, _, rfl, rfl, stSub.refl _, tYes_of ?_⟩
    refine he i xs[i] ys[i] D _ _ _ gx gy (hS.trans s1) hD (s1 _ _ hDs) fun H'' r s2 hr => ⟨s2 _ _ (s1 _ _ hDs), by rw [refs_len]; omega, nx _ _ ⟨ps ++ [r], refs_snoc _ _, by simp [hpl], upd_same, same_upd (hS.trans (s1.trans s2)) hD, fun k r' e => hu _ _ _ _ _ ?_⟩⟩
    by_cases hk : k < ps.length
    · rw [List.getElem?_append_left hk] at e
      exact hm _ _ _ _ _ (hP k r' e) (s1.trans s2)
    · rw [List.getElem?_append_right (by omega)] at e
      have hk' : k = ps.length := by
        have := (List.getElem?_eq_some_iff.mp e).1
        simp at this
        omega
      subst hk'
      simp at e
      subst e
      rw [hpl]
      exact hr
  · rintro zs H ⟨ps, rfl, hpl, hDs, hS, hP⟩
    exact ⟨⟨_, _, hS.seq ha, hS.seq hb, .inl (Nat.le_refl _)⟩, hQ D H ps hD hS hDs hpl hP⟩
end L2
namespace L2
theorem iteFd {b : Bool} {A B : Prop} (hb : b = false) (h : B) : if b = true then A else B := by rw [hb]; exact iteF h
theorem iteTd {b : Bool} {A B : Prop} (hb : b = true) (h : A) : if b = true then A else B := by rw [hb]; exact iteT h
end L2
namespace L2
section
variable {α : Type} {P : List α → Prop}
theorem us1 (h : ∀ a, P [a]) : ∀ us, us.length = 1 → P us
  | [a], _ => h a
theorem us2 (h : ∀ a b, P [a, b]) : ∀ us, us.length = 2 → P us
  | [a, b], _ => h a b
theorem us3 (h : ∀ a b c, P [a, b, c]) : ∀ us, us.length = 3 → P us
  | [a, b, c], _ => h a b c
theorem us4 (h : ∀ a b c d, P [a, b, c, d]) : ∀ us, us.length = 4 → P us
  | [a, b, c, d], _ => h a b c d
theorem us5 (h : ∀ a b c d e, P [a, b, c, d, e]) : ∀ us, us.length = 5 → P us
  | [a, b, c, d, e], _ => h a b c d e
end
end L2
namespace L2
/-! ### the rest of a body out of sight while its first statements are read -/
section
variable {s1 s2 s3 s4 s5 s6 s7 s8 s9 u : TS} {D : Ends} {σ : St} {H : Hp}
theorem cut6 (M : St → Hp → Prop) (h1 : ∀ U : TS, (∀ σ' H', M σ' H' → U D σ' H') → tSeq s1 (tSeq s2 (tSeq s3 (tSeq s4 (tSeq s5 (tSeq s6 U))))) D σ H) (h2 : ∀ σ' H', M σ' H' → u D σ' H') : tSeq s1 (tSeq s2 (tSeq s3 (tSeq s4 (tSeq s5 (tSeq s6 u))))) D σ H := h1 u h2
theorem cut7 (M : St → Hp → Prop) (h1 : ∀ U : TS, (∀ σ' H', M σ' H' → U D σ' H') → tSeq s1 (tSeq s2 (tSeq s3 (tSeq s4 (tSeq s5 (tSeq s6 (tSeq s7 U)))))) D σ H) (h2 : ∀ σ' H', M σ' H' → u D σ' H') : tSeq s1 (tSeq s2 (tSeq s3 (tSeq s4 (tSeq s5 (tSeq s6 (tSeq s7 u)))))) D σ H := h1 u h2
theorem cut9 (M : St → Hp → Prop) (h1 : ∀ U : TS, (∀ σ' H', M σ' H' → U D σ' H') → tSeq s1 (tSeq s2 (tSeq s3 (tSeq s4 (tSeq s5 (tSeq s6 (tSeq s7 (tSeq s8 (tSeq s9 U)))))))) D σ H) (h2 : ∀ σ' H', M σ' H' → u D σ' H') : tSeq s1 (tSeq s2 (tSeq s3 (tSeq s4 (tSeq s5 (tSeq s6 (tSeq s7 (tSeq s8 (tSeq s9 u)))))))) D σ H := h1 u h2
end
end L2
namespace My
open PySem L2
def top (i : Nat) : Stmt := PySem.Challenge.pw_lendyard_k06_whole_all_could.main.body.getD i (.Pass ⟨0, 0, 0, 0⟩)
abbrev s_more : Stmt := top 1
abbrev s_less : Stmt := top 2
abbrev s_free_of : Stmt := top 3
abbrev s_fits : Stmt := top 4
abbrev s_copies : Stmt := top 5
abbrev s_way_out : Stmt := top 15
abbrev s_check_deed : Stmt := top 17
abbrev s_with_loan : Stmt := top 18
abbrev s_lent : Stmt := top 19
abbrev s_returned : Stmt := top 20
abbrev s_done : Stmt := top 22
abbrev s_answered : Stmt := top 23
abbrev s_steps : Stmt := top 24
abbrev s_loans_behind : Stmt := top 25
abbrev s__law_wide : Stmt := top 27
abbrev s__law_reach : Stmt := top 28
abbrev s__law_whole : Stmt := top 29
abbrev s__law_at : Stmt := top 30
abbrev s__law_numbers : Stmt := top 31
abbrev s__law_tables : Stmt := top 32
abbrev s__law_copy : Stmt := top 33
abbrev s__law_less : Stmt := top 34
abbrev s__law_more : Stmt := top 35
abbrev s__law_free : Stmt := top 36
abbrev s__law_within : Stmt := top 37
abbrev s__law_greedy : Stmt := top 38
abbrev s__law_scales : Stmt := top 39
abbrev s__law_claimed : Stmt := top 40
abbrev s__law_deeds : Stmt := top 41
abbrev s__law_again : Stmt := top 42
abbrev s__law_same : Stmt := top 43
abbrev s__law_sound : Stmt := top 44
abbrev s__law_judged : Stmt := top 45
abbrev s__law_changed : Stmt := top 46
abbrev s_law : Stmt := top 47
theorem sc_more : FnScope ["amounts", "other"] ["amounts", "other"] (defScope s_more) := ⟨rfl, rfl, rfl, by decide +kernel, rfl, by decide +kernel, by decide +kernel⟩
theorem sc_less : FnScope ["amounts", "other"] ["amounts", "other"] (defScope s_less) := ⟨rfl, rfl, rfl, by decide +kernel, rfl, by decide +kernel, by decide +kernel⟩
theorem sc_free_of : FnScope ["stock", "loans", "free", "loan"] ["stock", "loans"] (defScope s_free_of) := ⟨rfl, rfl, rfl, by decide +kernel, rfl, by decide +kernel, by decide +kernel⟩
theorem sc_fits : FnScope ["amounts", "other", "number", "bound"] ["amounts", "other"] (defScope s_fits) := ⟨rfl, rfl, rfl, by decide +kernel, rfl, by decide +kernel, by decide +kernel⟩
theorem sc_copies : FnScope ["loans"] ["loans"] (defScope s_copies) := ⟨rfl, rfl, rfl, by decide +kernel, rfl, by decide +kernel, by decide +kernel⟩
theorem sc_way_out : FnScope ["stock", "claims", "loans", "free", "rests", "order", "waiting", "ready", "worker"] ["stock", "claims", "loans"] (defScope s_way_out) := ⟨rfl, rfl, rfl, by decide +kernel, rfl, by decide +kernel, by decide +kernel⟩
theorem sc_check_deed : FnScope ["loans", "worker", "amounts"] ["loans", "worker", "amounts"] (defScope s_check_deed) := ⟨rfl, rfl, rfl, by decide +kernel, rfl, by decide +kernel, by decide +kernel⟩
theorem sc_with_loan : FnScope ["loans", "worker", "loan", "behind"] ["loans", "worker", "loan"] (defScope s_with_loan) := ⟨rfl, rfl, rfl, by decide +kernel, rfl, by decide +kernel, by decide +kernel⟩
theorem sc_lent : FnScope ["stock", "claims", "loans", "worker", "amounts", "loan", "behind"] ["stock", "claims", "loans", "worker", "amounts"] (defScope s_lent) := ⟨rfl, rfl, rfl, by decide +kernel, rfl, by decide +kernel, by decide +kernel⟩
theorem sc_returned : FnScope ["loans", "worker", "amounts"] ["loans", "worker", "amounts"] (defScope s_returned) := ⟨rfl, rfl, rfl, by decide +kernel, rfl, by decide +kernel, by decide +kernel⟩
theorem sc_done : FnScope ["stock", "claims", "loans", "deed"] ["stock", "claims", "loans", "deed"] (defScope s_done) := ⟨rfl, rfl, rfl, by decide +kernel, rfl, by decide +kernel, by decide +kernel⟩
theorem sc_answered : FnScope ["stock", "claims", "loans", "deed"] ["stock", "claims", "loans", "deed"] (defScope s_answered) := ⟨rfl, rfl, rfl, by decide +kernel, rfl, by decide +kernel, by decide +kernel⟩
theorem sc_steps : FnScope ["stock", "claims", "deeds", "loans", "pairs", "deed", "pair"] ["stock", "claims", "deeds"] (defScope s_steps) := ⟨rfl, rfl, rfl, by decide +kernel, rfl, by decide +kernel, by decide +kernel⟩
theorem sc_loans_behind : FnScope ["stock", "claims", "deeds"] ["stock", "claims", "deeds"] (defScope s_loans_behind) := ⟨rfl, rfl, rfl, by decide +kernel, rfl, by decide +kernel, by decide +kernel⟩
theorem sc__law_wide : FnScope ["_law_script", "_law_few", "_law_bound"] ["_law_script", "_law_few", "_law_bound"] (defScope s__law_wide) := ⟨rfl, rfl, rfl, by decide +kernel, rfl, by decide +kernel, by decide +kernel⟩
theorem sc__law_reach : FnScope ["_law_script", "_law_most", "_law_bound"] ["_law_script", "_law_most", "_law_bound"] (defScope s__law_reach) := ⟨rfl, rfl, rfl, by decide +kernel, rfl, by decide +kernel, by decide +kernel⟩
theorem sc__law_whole : FnScope ["_law_found"] ["_law_found"] (defScope s__law_whole) := ⟨rfl, rfl, rfl, by decide +kernel, rfl, by decide +kernel, by decide +kernel⟩
theorem sc__law_at : FnScope ["_law_script", "_law_k"] ["_law_script", "_law_k"] (defScope s__law_at) := ⟨rfl, rfl, rfl, by decide +kernel, rfl, by decide +kernel, by decide +kernel⟩
theorem sc__law_numbers : FnScope ["_law_found", "_law_due", "_law_k"] ["_law_found", "_law_due"] (defScope s__law_numbers) := ⟨rfl, rfl, rfl, by decide +kernel, rfl, by decide +kernel, by decide +kernel⟩
theorem sc__law_tables : FnScope ["_law_found", "_law_due", "_law_k"] ["_law_found", "_law_due"] (defScope s__law_tables) := ⟨rfl, rfl, rfl, by decide +kernel, rfl, by decide +kernel, by decide +kernel⟩
theorem sc__law_copy : FnScope ["_law_rows"] ["_law_rows"] (defScope s__law_copy) := ⟨rfl, rfl, rfl, by decide +kernel, rfl, by decide +kernel, by decide +kernel⟩
theorem sc__law_less : FnScope ["_law_one", "_law_other"] ["_law_one", "_law_other"] (defScope s__law_less) := ⟨rfl, rfl, rfl, by decide +kernel, rfl, by decide +kernel, by decide +kernel⟩
theorem sc__law_more : FnScope ["_law_one", "_law_other"] ["_law_one", "_law_other"] (defScope s__law_more) := ⟨rfl, rfl, rfl, by decide +kernel, rfl, by decide +kernel, by decide +kernel⟩
theorem sc__law_free : FnScope ["_law_stock", "_law_loans", "_law_left", "_law_loan"] ["_law_stock", "_law_loans"] (defScope s__law_free) := ⟨rfl, rfl, rfl, by decide +kernel, rfl, by decide +kernel, by decide +kernel⟩
theorem sc__law_within : FnScope ["_law_one", "_law_other"] ["_law_one", "_law_other"] (defScope s__law_within) := ⟨rfl, rfl, rfl, by decide +kernel, rfl, by decide +kernel, by decide +kernel⟩
theorem sc__law_greedy : FnScope ["_law_stock", "_law_claims", "_law_loans", "_law_room", "_law_order", "_law_turn", "_law_k", "_law_need"] ["_law_stock", "_law_claims", "_law_loans"] (defScope s__law_greedy) := ⟨rfl, rfl, rfl, by decide +kernel, rfl, by decide +kernel, by decide +kernel⟩
theorem sc__law_scales : FnScope ["_law_kinds", "_law_seed", "_law_way", "_law_scale"] ["_law_kinds", "_law_seed", "_law_way"] (defScope s__law_scales) := ⟨rfl, rfl, rfl, by decide +kernel, rfl, by decide +kernel, by decide +kernel⟩
theorem sc__law_claimed : FnScope ["_law_count", "_law_stock", "_law_cells", "_law_scale", "_law_claims", "_law_kinds", "_law_k", "_law_claim", "_law_j", "_law_gap"] ["_law_count", "_law_stock", "_law_cells", "_law_scale"] (defScope s__law_claimed) := ⟨rfl, rfl, rfl, by decide +kernel, rfl, by decide +kernel, by decide +kernel⟩
theorem sc__law_deeds : FnScope ["_law_cells", "_law_kinds", "_law_count", "_law_scale", "_law_made", "_law_k", "_law_cell", "_law_near", "_law_worker", "_law_menu", "_law_amounts", "_law_j", "_law_pick"] ["_law_cells", "_law_kinds", "_law_count", "_law_scale"] (defScope s__law_deeds) := ⟨rfl, rfl, rfl, by decide +kernel, rfl, by decide +kernel, by decide +kernel⟩
theorem sc__law_again : FnScope ["_law_asked"] ["_law_asked"] (defScope s__law_again) := ⟨rfl, rfl, rfl, by decide +kernel, rfl, by decide +kernel, by decide +kernel⟩
theorem sc__law_same : FnScope ["_law_handed", "_law_asked", "_law_k", "_law_deed"] ["_law_handed", "_law_asked"] (defScope s__law_same) := ⟨rfl, rfl, rfl, by decide +kernel, rfl, by decide +kernel, by decide +kernel⟩
theorem sc__law_sound : FnScope ["_law_stock", "_law_claims", "_law_loans", "_law_k"] ["_law_stock", "_law_claims", "_law_loans"] (defScope s__law_sound) := ⟨rfl, rfl, rfl, by decide +kernel, rfl, by decide +kernel, by decide +kernel⟩
theorem sc__law_judged : FnScope ["_law_stock", "_law_claims", "_law_loans", "_law_deed", "_law_loan", "_law_grown", "_law_made"] ["_law_stock", "_law_claims", "_law_loans", "_law_deed"] (defScope s__law_judged) := ⟨rfl, rfl, rfl, by decide +kernel, rfl, by decide +kernel, by decide +kernel⟩
theorem sc__law_changed : FnScope ["_law_loans", "_law_deed", "_law_word", "_law_made"] ["_law_loans", "_law_deed", "_law_word"] (defScope s__law_changed) := ⟨rfl, rfl, rfl, by decide +kernel, rfl, by decide +kernel, by decide +kernel⟩
theorem sc_law : FnScope ["_law_script", "_law_seed", "_law_kinds", "_law_scale", "_law_fills", "_law_stock", "_law_count", "_law_claims", "_law_asked", "_law_passed", "_law_table", "_law_handed", "_law_found", "_law_loans", "_law_k", "_law_word"] ["_law_script"] (defScope s_law) := ⟨rfl, rfl, rfl, by decide +kernel, rfl, by decide +kernel, by decide +kernel⟩
section
variable {P : Program} {w : World} {K : PySem.W.Frag} {mg : Str → Option Value} {base : Heap}
/-! ### amounts in plain lists -/
def vadd (a b : List Int) : List Int := List.zipWith (fun x y => x + y) a b
def vsub (a b : List Int) : List Int := List.zipWith (fun x y => x - y) a b
theorem vadd_len {a b : List Int} (h : a.length = b.length) : (vadd a b).length = a.length := by unfold vadd; rw [List.length_zipWith]; omega
theorem vsub_len {a b : List Int} (h : a.length = b.length) : (vsub a b).length = a.length := by unfold vsub; rw [List.length_zipWith]; omega
theorem vsub_vadd : ∀ {a b : List Int}, a.length = b.length → vsub (vadd a b) b = a
  | [], [], _ => rfl
  | x :: a, y :: b, h => by
    have ih := vsub_vadd (a := a) (b := b) (by simpa using h)
    show (x + y - y) :: vsub (vadd a b) b = x :: a
    rw [ih]; congr 1; omega
  | [], _ :: _, h => by simp at h
  | _ :: _, [], h => by simp at h
theorem vadd_swap : ∀ {a b c : List Int}, vadd (vadd a b) c = vadd (vadd a c) b
  | [], _, _ => by unfold vadd; simp
  | _ :: _, [], _ => by unfold vadd; simp
  | _ :: _, _ :: _, [] => by unfold vadd; simp
  | x :: a, y :: b, z :: c => by
    show (x + y + z) :: vadd (vadd a b) c = (x + z + y) :: vadd (vadd a c) b
    rw [vadd_swap (a := a)]; congr 1; omega
theorem addAll_len {n : Nat} : ∀ {xss : List (List Int)} {s : List Int}, (∀ x ∈ xss, x.length = n) → s.length = n → (xss.foldl vadd s).length = n
  | [], _, _, h => h
  | x :: xss, s, hx, h => addAll_len (xss := xss) (fun y hy => hx y (List.mem_cons_of_mem _ hy)) (by rw [vadd_len (by rw [h, hx x List.mem_cons_self]), h])
theorem subAll_len {n : Nat} : ∀ {xss : List (List Int)} {s : List Int}, (∀ x ∈ xss, x.length = n) → s.length = n → (xss.foldl vsub s).length = n
  | [], _, _, h => h
  | x :: xss, s, hx, h => subAll_len (xss := xss) (fun y hy => hx y (List.mem_cons_of_mem _ hy)) (by rw [vsub_len (by rw [h, hx x List.mem_cons_self]), h])
theorem addAll_out {xss : List (List Int)} : ∀ {s x : List Int}, xss.foldl vadd (vadd s x) = vadd (xss.foldl vadd s) x := by
  induction xss with
  | nil => intro s x; rfl
  | cons y xss ih => intro s x; rw [List.foldl_cons, List.foldl_cons, vadd_swap, ih]
theorem sub_add_all {n : Nat} : ∀ {xss : List (List Int)} {s : List Int}, (∀ x ∈ xss, x.length = n) → s.length = n → xss.foldl vsub (xss.foldl vadd s) = s
  | [], _, _, _ => rfl
  | x :: xss, s, hx, h => by
    have hr : ∀ y ∈ xss, y.length = n := fun y hy => hx y (List.mem_cons_of_mem _ hy)
    rw [List.foldl_cons, List.foldl_cons, addAll_out, vsub_vadd (by rw [addAll_len hr h, hx x List.mem_cons_self])]
    exact sub_add_all hr h
theorem foldl_snoc {f : List Int → List Int → List Int} (xss : List (List Int)) (x s : List Int) : (xss ++ [x]).foldl f s = f (xss.foldl f s) x := by rw [List.foldl_append]; rfl

def spLess (K : PySem.W.Frag) : Sp := fun vs H Q _ => ∃ (a b : Addr) (xs ys : List Int), vs = [.ref a, .ref b] ∧ SqL K H a (intL xs) ∧ SqL K H b (intL ys) ∧ xs.length = ys.length ∧ xs.length ≤ 1000 ∧
  ∀ H' L, Same H H' → H L = none → H' L = some (.lst (intL (vsub xs ys))) → Q (.ref L) H'
theorem ok_less (bi : BI mg) {ca : CA} (ck : CK K mg ca)
    {f : Addr} {fd : FuncData} (F : Fun K "less" "less" s_less f fd) : FnOk P w K mg base CX0 2 f fd ["amounts", "other"] (spLess K) := by
  refine F.ok sc_less (fun vs H Q E h => ?_) (fun cdv A outer s H vs Q E hr h => ?_)
  · obtain ⟨a, b, xs, ys, rfl, _⟩ := h
    rfl
  obtain ⟨a, b, xs, ys, rfl, hx, hy, hl, hz, q⟩ := h
  refine ⟨_, (pss_one (ps_ret (pe_comp (blk_mk (own := ["number", "taken"]) (caps := []) (js := []) rfl (by decide +kernel) (by decide +kernel) rfl trivial) rfl (pi_zipK (K := K) rfl rfl bi.zip (pa_cons (pv 0) (pa_cons (pv 1) pa_nil))) (fun _ _ _ _ => (pg_tupK (K := K) (n := 2) rfl rfl (pgs_cons (pg_name (i := 0) (show (["number", "taken"] : List Str).Nodup by decide +kernel) rfl (Or.inl rfl)) (pgs_cons (pg_name (i := 1) (show (["number", "taken"] : List Str).Nodup by decide +kernel) rfl (Or.inl rfl)) pgs_nil)))) (fun _ _ _ _ => pif_nil) (fun _ _ _ _ => (pe_op op_sub (pv 0) (pv 1)))))), ?_⟩
  exact ⟨_, rfl, _, rfl, a, b, rfl, ⟨_, hx⟩, ⟨_, hy⟩, comp_zip_ints (f := fun x y => x - y) hx hy hl (small hz) (fun x y H' Kx _ k => ⟨_, rfl, _, rfl, _, _, rfl, rfl, k _ (Same.refl _)⟩) (fun D H' hD sm e => q H' D sm hD e)⟩

def spMore (K : PySem.W.Frag) : Sp := fun vs H Q _ => ∃ (a b : Addr) (xs ys : List Int), vs = [.ref a, .ref b] ∧ SqL K H a (intL xs) ∧ SqL K H b (intL ys) ∧ xs.length = ys.length ∧ xs.length ≤ 1000 ∧
  ∀ H' L, Same H H' → H L = none → H' L = some (.lst (intL (vadd xs ys))) → Q (.ref L) H'
theorem ok_more (bi : BI mg) {ca : CA} (ck : CK K mg ca)
    {f : Addr} {fd : FuncData} (F : Fun K "more" "more" s_more f fd) : FnOk P w K mg base CX0 2 f fd ["amounts", "other"] (spMore K) := by
  refine F.ok sc_more (fun vs H Q E h => ?_) (fun cdv A outer s H vs Q E hr h => ?_)
  · obtain ⟨a, b, xs, ys, rfl, _⟩ := h
    rfl
  obtain ⟨a, b, xs, ys, rfl, hx, hy, hl, hz, q⟩ := h
  refine ⟨_, (pss_one (ps_ret (pe_comp (blk_mk (own := ["number", "added"]) (caps := []) (js := []) rfl (by decide +kernel) (by decide +kernel) rfl trivial) rfl (pi_zipK (K := K) rfl rfl bi.zip (pa_cons (pv 0) (pa_cons (pv 1) pa_nil))) (fun _ _ _ _ => (pg_tupK (K := K) (n := 2) rfl rfl (pgs_cons (pg_name (i := 0) (show (["number", "added"] : List Str).Nodup by decide +kernel) rfl (Or.inl rfl)) (pgs_cons (pg_name (i := 1) (show (["number", "added"] : List Str).Nodup by decide +kernel) rfl (Or.inl rfl)) pgs_nil)))) (fun _ _ _ _ => pif_nil) (fun _ _ _ _ => (pe_op op_add (pv 0) (pv 1)))))), ?_⟩
  exact ⟨_, rfl, _, rfl, a, b, rfl, ⟨_, hx⟩, ⟨_, hy⟩, comp_zip_ints (f := fun x y => x + y) hx hy hl (small hz) (fun x y H' Kx _ k => ⟨_, rfl, _, rfl, _, _, rfl, rfl, k _ (Same.refl _)⟩) (fun D H' hD sm e => q H' D sm hD e)⟩

def fitsM : List Int → List Int → Bool
  | x :: xs, y :: ys => if y < x then false else fitsM xs ys
  | _, _ => true
theorem fitsM_nil (ys : List Int) : fitsM [] ys = true := by cases ys <;> rfl
def spFits (K : PySem.W.Frag) : Sp := fun vs H Q _ => ∃ (a b : Addr) (xs ys : List Int), vs = [.ref a, .ref b] ∧ SqL K H a (intL xs) ∧ SqL K H b (intL ys) ∧ xs.length = ys.length ∧ ∀ H', Same H H' → Q (.bl (fitsM xs ys)) H'
theorem ok_fits (bi : BI mg) {ca : CA} (ck : CK K mg ca)
    {f : Addr} {fd : FuncData} (F : Fun K "fits" "fits" s_fits f fd) : FnOk P w K mg base CX0 2 f fd ["amounts", "other"] (spFits K) := by
  refine F.ok sc_fits (fun vs H Q E h => ?_) (fun cdv A outer s H vs Q E hr h => ?_)
  · obtain ⟨a, b, xs, ys, rfl, _⟩ := h
    rfl
  obtain ⟨a, b, xs, ys, rfl, hx, hy, hl, q⟩ := h
  refine ⟨_, (pss_cons (ps_for PassesOwn.never rfl (pi_zipK (K := K) rfl rfl bi.zip (pa_cons (pv 0) (pa_cons (pv 1) pa_nil))) (pg_tupK (K := K) (n := 2) rfl rfl (pgs_cons (pg_name (i := 2) sc_fits.nd rfl (Or.inl rfl)) (pgs_cons (pg_name (i := 3) sc_fits.nd rfl (Or.inl rfl)) pgs_nil))) (pss_one (ps_if (pt_cmpR op_gt (pv 2) (pv 3) (nomark _)) (pss_one (ps_ret pe_bl)) pss_nil))) (pss_one (ps_ret pe_bl))), ?_⟩
  refine ⟨_, rfl, _, rfl, a, b, rfl, ⟨_, hx⟩, ⟨_, hy⟩, ?_⟩
  refine for_zip (xs := intL xs) (ys := intL ys) (fun i σ' H' => (∃ p r, σ' = [some (.ref a), some (.ref b), p, r]) ∧ Same H H' ∧ fitsM xs ys = fitsM (xs.drop i) (ys.drop i)) (by rw [ints_len, ints_len]; exact hl)
    ⟨⟨_, _, rfl⟩, Same.refl _, rfl⟩ (fun i σ' H' _ hp => ⟨hp.2.1.seq hx, hp.2.1.seq hy⟩) ?_ ?_
  · rintro i x y σ' H' T ex ey ⟨⟨p, r, rfl⟩, hS, hm⟩ hT
    rw [List.getElem?_map] at ex ey
    cases e1 : xs[i]? with
    | none => rw [e1] at ex; cases ex
    | some x1 =>
      cases e2 : ys[i]? with
      | none => rw [e2] at ey; cases ey
      | some y1 =>
        rw [e1] at ex; rw [e2] at ey
        cases ex; cases ey
        have d1 : xs.drop i = x1 :: xs.drop (i + 1) := by
          obtain ⟨h1, h2⟩ := List.getElem?_eq_some_iff.mp e1
          rw [List.drop_eq_getElem_cons h1, h2]
        have d2 : ys.drop i = y1 :: ys.drop (i + 1) := by
          obtain ⟨h1, h2⟩ := List.getElem?_eq_some_iff.mp e2
          rw [List.drop_eq_getElem_cons h1, h2]
        rw [d1, d2] at hm
        have s1 : Same H' (upd H' T (.tup [.int x1, .int y1])) := same_new hT _
        refine ⟨T, _, rfl, .inl (.inl upd_same), rfl, _, _, rfl, _, _, rfl, rfl, ?_⟩
        refine ⟨_, rfl, _, rfl, _, _, rfl, rfl, _, rfl, ite2 (fun c => ?_) (fun c => ?_)⟩
        · have c' : y1 < x1 := of_decide_eq_true c
          have := q _ (hS.trans s1)
          rw [hm, show fitsM (x1 :: xs.drop (i + 1)) (y1 :: ys.drop (i + 1)) = if y1 < x1 then false else fitsM (xs.drop (i + 1)) (ys.drop (i + 1)) from rfl, if_pos c'] at this
          exact this
        · have c' : ¬ y1 < x1 := of_decide_eq_false (Bool.eq_false_iff.mpr c)
          refine ⟨⟨_, _, rfl⟩, hS.trans s1, ?_⟩
          rw [hm, show fitsM (x1 :: xs.drop (i + 1)) (y1 :: ys.drop (i + 1)) = if y1 < x1 then false else fitsM (xs.drop (i + 1)) (ys.drop (i + 1)) from rfl, if_neg c']
  · rintro σ' H' ⟨⟨p, r, rfl⟩, hS, hm⟩
    have := q _ hS
    rw [hm, ints_len, List.drop_eq_nil_of_le (Nat.le_refl _), fitsM_nil] at this
    exact this

def spFree (K : PySem.W.Frag) : Sp := fun vs H Q _ => ∃ (a b : Addr) (st : List Int) (rs : List Addr) (xss : List (List Int)), vs = [.ref a, .ref b] ∧ SqL K H a (intL st) ∧ SqL K H b (refL rs) ∧ Rows H rs xss ∧ (∀ x ∈ xss, x.length = st.length) ∧ st.length ≤ 1000 ∧
  ∀ H' L, Same H H' → H L = none → H' L = some (.lst (intL (xss.foldl vsub st))) → Q (.ref L) H'
theorem ok_free_of (bi : BI mg) {ca : CA} (ck : CK K mg ca)
    (c_less : Callee P w K mg base "less" 2 ["amounts", "other"] (spLess K))
    {f : Addr} {fd : FuncData} (F : Fun K "free_of" "free_of" s_free_of f fd) : FnOk P w K mg base CX0 3 f fd ["stock", "loans"] (spFree K) := by
  refine F.ok sc_free_of (fun vs H Q E h => ?_) (fun cdv A outer s H vs Q E hr h => ?_)
  · obtain ⟨a, b, st, rs, xss, rfl, _⟩ := h
    rfl
  obtain ⟨a, b, st, rs, xss, rfl, hx, hy, hR, hln, hz, q⟩ := h
  refine ⟨_, (pss_cons (ps_set (i := 2) sc_free_of.nd rfl (Or.inl rfl) (pe_callTy (call_list_ofK (K := K) rfl) rfl bi.list BootN.list (pa_cons (pv 0) pa_nil))) (pss_cons (ps_for PassesOwn.never rfl (pi_listK (K := K) rfl (pv 1)) (pg_name (i := 3) sc_free_of.nd rfl (Or.inl rfl)) (pss_one (ps_set (i := 2) sc_free_of.nd rfl (Or.inl rfl) (pe_calln c_less hr (by decide) rfl (pa_cons (pv 2) (pa_cons (pv 3) pa_nil)))))) (pss_one (ps_ret (pv 2))))), ?_⟩
  refine ⟨_, rfl, a, _, rfl, .inl hx, fun L hL => ?_⟩
  have s1 := same_new hL (.lst (intL st))
  refine ⟨_, rfl, b, rfl, ⟨_, s1.seq hy⟩, ?_⟩
  refine for_list (xs := refL rs) (fun i σ' H' => ∃ f p, σ' = [some (.ref a), some (.ref b), some (.ref f), p] ∧ Same H H' ∧ H f = none ∧ H' f = some (.lst (intL ((xss.take i).foldl vsub st))))
    ⟨L, none, rfl, s1, hL, upd_same⟩ (fun i σ' H' _ ⟨f, p, _, sm, _⟩ => sm.seq hy) ?_ ?_
  · rintro i x σ' H' hx' ⟨f, p, rfl, sm, hf, hf'⟩
    rw [List.getElem?_map] at hx'
    cases e : rs[i]? with
    | none => rw [e] at hx'; cases hx'
    | some r =>
      rw [e] at hx'
      cases hx'
      obtain ⟨x, ex, hr'⟩ := hR.getr e
      have hxm : x ∈ xss := List.mem_of_getElem? ex
      have hfl : ((xss.take i).foldl vsub st).length = st.length := subAll_len (fun y hy => hln y (List.mem_of_mem_take hy)) rfl
      refine ⟨_, rfl, _, rfl, f, r, _, x, rfl, SqL.of hf', SqL.of (sm _ _ hr'), by rw [hfl, hln x hxm], by omega, fun H2 L2 s2 h2 e2 => ?_⟩
      refine ⟨L2, _, rfl, sm.trans s2, sm.free h2, ?_⟩
      rw [List.take_add_one, ex]
      show H2 L2 = some (.lst (intL ((xss.take i ++ [x]).foldl vsub st)))
      rw [foldl_snoc]
      exact e2
  · rintro σ' H' ⟨f, p, rfl, sm, hf, hf'⟩
    refine ⟨_, rfl, ?_⟩
    rw [refs_len, hR.len, List.take_of_length_le (Nat.le_refl _)] at hf'
    exact q H' f sm hf hf'

theorem nf {b : Bool} (h : ¬ b = false) : b = true := by cases b with
  | true => rfl
  | false => exact absurd rfl h
/-! ### amounts by place -/
theorem at_vadd : ∀ {a b : List Int}, a.length = b.length → ∀ j : Nat, (vadd a b).getD j 0 = a.getD j 0 + b.getD j 0
  | [], [], _, j => by simp [vadd]
  | x :: a, y :: b, h, 0 => rfl
  | x :: a, y :: b, h, j + 1 => at_vadd (a := a) (b := b) (by simpa using h) j
  | [], _ :: _, h, _ => by simp at h
  | _ :: _, [], h, _ => by simp at h
theorem at_vsub : ∀ {a b : List Int}, a.length = b.length → ∀ j : Nat, (vsub a b).getD j 0 = a.getD j 0 - b.getD j 0
  | [], [], _, j => by simp [vsub]
  | x :: a, y :: b, h, 0 => rfl
  | x :: a, y :: b, h, j + 1 => at_vsub (a := a) (b := b) (by simpa using h) j
  | [], _ :: _, h, _ => by simp at h
  | _ :: _, [], h, _ => by simp at h
theorem fits_iff : ∀ {a b : List Int}, a.length = b.length → (fitsM a b = true ↔ ∀ j : Nat, a.getD j 0 ≤ b.getD j 0)
  | [], [], _ => ⟨fun _ _ => Int.le_refl _, fun _ => rfl⟩
  | x :: a, y :: b, h => by
    have ih := fits_iff (a := a) (b := b) (by simpa using h)
    rw [fitsM]
    by_cases c : y < x
    · rw [if_pos c]
      refine ⟨fun z => absurd z (by decide), fun z => ?_⟩
      have : x ≤ y := z 0
      omega
    · rw [if_neg c, ih]
      refine ⟨fun z j => ?_, fun z j => ?_⟩
      · cases j with
        | zero => show x ≤ y; omega
        | succ j => exact z j
      · exact z (j + 1)
  | [], _ :: _, h => by simp at h
  | _ :: _, [], h => by simp at h
theorem ext_at : ∀ {a b : List Int}, a.length = b.length → (∀ j : Nat, a.getD j 0 = b.getD j 0) → a = b
  | [], [], _, _ => rfl
  | x :: a, y :: b, h, z => by
    have h0 : x = y := z 0
    rw [h0, ext_at (a := a) (b := b) (by simpa using h) fun j => z (j + 1)]
  | [], _ :: _, h, _ => by simp at h
  | _ :: _, [], h, _ => by simp at h
theorem at_nonneg {a : List Int} (h : ∀ y ∈ a, 0 ≤ y) (j : Nat) : 0 ≤ a.getD j 0 := by
  rw [List.getD_eq_getElem?_getD]
  cases e : a[j]? with
  | none => simp
  | some y => exact h y (List.mem_of_getElem? e)
theorem nonneg_of_at {a : List Int} (h : ∀ j : Nat, 0 ≤ a.getD j 0) : ∀ y ∈ a, 0 ≤ y := by
  intro y hy
  obtain ⟨j, e⟩ := List.getElem?_of_mem hy
  have := h j
  rw [List.getD_eq_getElem?_getD, e] at this
  exact this
/-! ### sums over workers -/
def sumF (g : Nat → Int) : List Nat → Int
  | [] => 0
  | w :: o => g w + sumF g o
theorem sumF_append {g : Nat → Int} : ∀ (o p : List Nat), sumF g (o ++ p) = sumF g o + sumF g p
  | [], p => by simp [sumF]
  | w :: o, p => by
    show g w + sumF g (o ++ p) = g w + sumF g o + sumF g p
    rw [sumF_append o p]; omega
theorem sumF_perm {g : Nat → Int} {o p : List Nat} (h : o.Perm p) : sumF g o = sumF g p := by
  induction h with
  | nil => rfl
  | cons x _ ih => show g x + _ = g x + _; rw [ih]
  | swap x y l => show g y + (g x + _) = g x + (g y + _); omega
  | trans _ _ a b => rw [a, b]
theorem sumF_nonneg {g : Nat → Int} : ∀ {o : List Nat}, (∀ w ∈ o, 0 ≤ g w) → 0 ≤ sumF g o
  | [], _ => by simp [sumF]
  | w :: o, h => by
    have h1 := h w List.mem_cons_self
    have h2 := sumF_nonneg (o := o) fun v hv => h v (List.mem_cons_of_mem _ hv)
    show 0 ≤ g w + sumF g o
    omega
theorem sumF_congr {g g' : Nat → Int} : ∀ {o : List Nat}, (∀ w ∈ o, g w = g' w) → sumF g o = sumF g' o
  | [], _ => rfl
  | w :: o, h => by
    show g w + sumF g o = g' w + sumF g' o
    rw [h w List.mem_cons_self, sumF_congr fun v hv => h v (List.mem_cons_of_mem _ hv)]
theorem sumF_sub {g : Nat → Int} : ∀ {p S : List Nat}, p.Nodup → (∀ w ∈ p, w ∈ S) → (∀ w ∈ S, 0 ≤ g w) → sumF g p ≤ sumF g S
  | [], S, _, _, hg => sumF_nonneg hg
  | w :: p, S, hn, hs, hg => by
    have hw : w ∈ S := hs w List.mem_cons_self
    rw [sumF_perm (List.perm_cons_erase hw)]
    have hn' := List.nodup_cons.mp hn
    have := sumF_sub (g := g) (p := p) (S := S.erase w) hn'.2 (fun v hv => (List.mem_erase_of_ne (a := v) (b := w) (fun e => hn'.1 (by rw [← e]; exact hv))).mpr (hs v (List.mem_cons_of_mem _ hv))) fun v hv => hg v (List.mem_of_mem_erase hv)
    show g w + sumF g p ≤ g w + sumF g (S.erase w)
    omega
theorem len_sub : ∀ {p S : List Nat}, p.Nodup → (∀ w ∈ p, w ∈ S) → p.length ≤ S.length
  | [], _, _, _ => Nat.zero_le _
  | w :: p, S, hn, hs => by
    have hw : w ∈ S := hs w List.mem_cons_self
    have hn' := List.nodup_cons.mp hn
    have := len_sub (p := p) (S := S.erase w) hn'.2 fun v hv => (List.mem_erase_of_ne (a := v) (b := w) (fun e => hn'.1 (by rw [← e]; exact hv))).mpr (hs v (List.mem_cons_of_mem _ hv))
    have e := (List.perm_cons_erase hw).length_eq
    rw [List.length_cons] at e ⊢
    omega
theorem all_in {n : Nat} {o : List Nat} (hn : o.Nodup) (hl : ∀ w ∈ o, w < n) (h : o.length = n) : ∀ w, w < n → w ∈ o := fun w hw => by
  refine Classical.byContradiction fun c => ?_
  have := len_sub (p := w :: o) (S := List.range n) (List.nodup_cons.mpr ⟨c, hn⟩) fun v hv => by
    rcases List.mem_cons.mp hv with z | z
    · rw [z]; exact List.mem_range.mpr hw
    · exact List.mem_range.mpr (hl v z)
  rw [List.length_range, List.length_cons] at this
  omega
theorem len_le {n : Nat} {o : List Nat} (hn : o.Nodup) (hl : ∀ w ∈ o, w < n) : o.length ≤ n := by
  have := len_sub hn (S := List.range n) fun v hv => List.mem_range.mpr (hl v hv)
  rwa [List.length_range] at this
theorem one_out {n : Nat} {o : List Nat} (h : o.length < n) : ∃ w, w < n ∧ w ∉ o := by
  refine Classical.byContradiction fun c => ?_
  have := len_sub (p := List.range n) (S := o) List.nodup_range fun v hv => Classical.byContradiction fun z => c ⟨v, List.mem_range.mp hv, z⟩
  rw [List.length_range] at this
  omega
/-! ### the yard: kinds m, workers n, rests rs, loans xss -/
structure Yd (m n : Nat) (rs xss : List (List Int)) : Prop where
  lr : rs.length = n
  lx : xss.length = n
  rr : ∀ x ∈ rs, x.length = m
  rx : ∀ x ∈ xss, x.length = m
  nn : ∀ x ∈ xss, ∀ y ∈ x, 0 ≤ y
theorem row_mem {xss : List (List Int)} {w : Nat} (h : w < xss.length) : xss.getD w [] ∈ xss := by
  rw [List.getD_eq_getElem?_getD, List.getElem?_eq_getElem h]; exact List.getElem_mem h
section
variable {m n : Nat} {rs xss : List (List Int)}
theorem Yd.rlen (Y : Yd m n rs xss) {w : Nat} (h : w < n) : (rs.getD w []).length = m := Y.rr _ (row_mem (by rw [Y.lr]; exact h))
theorem Yd.xlen (Y : Yd m n rs xss) {w : Nat} (h : w < n) : (xss.getD w []).length = m := Y.rx _ (row_mem (by rw [Y.lx]; exact h))
theorem Yd.xnn (Y : Yd m n rs xss) {w : Nat} (h : w < n) (j : Nat) : 0 ≤ (xss.getD w []).getD j 0 := at_nonneg (Y.nn _ (row_mem (by rw [Y.lx]; exact h))) j
end
def growM (xss : List (List Int)) (f : List Int) (o : List Nat) : List Int := o.foldl (fun f w => vadd f (xss.getD w [])) f
theorem grow_len {m n : Nat} {xss : List (List Int)} (hx : ∀ w, w < n → (xss.getD w []).length = m) : ∀ {o : List Nat} {f : List Int}, f.length = m → (∀ w ∈ o, w < n) → (growM xss f o).length = m
  | [], _, h, _ => h
  | w :: o, f, h, hl => by
    have e := hx w (hl w List.mem_cons_self)
    exact grow_len hx (o := o) (by rw [vadd_len (by omega)]; exact h) fun v hv => hl v (List.mem_cons_of_mem _ hv)
theorem at_grow {m n : Nat} {xss : List (List Int)} (hx : ∀ w, w < n → (xss.getD w []).length = m) (j : Nat) : ∀ {o : List Nat} {f : List Int}, f.length = m → (∀ w ∈ o, w < n) → (growM xss f o).getD j 0 = f.getD j 0 + sumF (fun w => (xss.getD w []).getD j 0) o
  | [], _, _, _ => by simp [growM, sumF]
  | w :: o, f, h, hl => by
    have e := hx w (hl w List.mem_cons_self)
    have ih := at_grow hx j (o := o) (f := vadd f (xss.getD w [])) (by rw [vadd_len (by omega)]; exact h) fun v hv => hl v (List.mem_cons_of_mem _ hv)
    show (growM xss (vadd f (xss.getD w [])) o).getD j 0 = f.getD j 0 + ((xss.getD w []).getD j 0 + sumF _ o)
    rw [ih, at_vadd (by omega)]
    omega
theorem grow_append (xss : List (List Int)) (f : List Int) (o p : List Nat) : growM xss f (o ++ p) = growM xss (growM xss f o) p := List.foldl_append
theorem grow_perm {xss : List (List Int)} {f : List Int} {o p : List Nat} (h : o.Perm p) : growM xss f o = growM xss f p := h.foldl_eq' (fun _ _ _ _ _ => vadd_swap) f
def walkM (rs xss : List (List Int)) : List Int → List Nat → Prop
  | _, [] => True
  | f, w :: o => fitsM (rs.getD w []) f = true ∧ walkM rs xss (vadd f (xss.getD w [])) o
theorem walk_append {rs xss : List (List Int)} : ∀ {o p : List Nat} {f : List Int}, walkM rs xss f (o ++ p) ↔ walkM rs xss f o ∧ walkM rs xss (growM xss f o) p
  | [], _, _ => by simp [walkM, growM]
  | w :: o, p, f => by
    show fitsM _ f = true ∧ walkM rs xss (vadd f (xss.getD w [])) (o ++ p) ↔ (fitsM _ f = true ∧ walkM rs xss (vadd f (xss.getD w [])) o) ∧ walkM rs xss (growM xss (vadd f (xss.getD w [])) o) p
    rw [walk_append (o := o), and_assoc]
theorem walk_split {rs xss : List (List Int)} : ∀ {o : List Nat} {f : List Int}, walkM rs xss f o ↔ ∀ p w q, o = p ++ w :: q → fitsM (rs.getD w []) (growM xss f p) = true
  | [], _ => ⟨fun _ p w q e => by simp at e, fun _ => trivial⟩
  | v :: o, f => by
    show fitsM _ f = true ∧ walkM rs xss (vadd f (xss.getD v [])) o ↔ _
    rw [walk_split (o := o)]
    refine ⟨fun ⟨a, b⟩ p w q e => ?_, fun h => ⟨h [] v o rfl, fun p w q e => h (v :: p) w q (by rw [e]; rfl)⟩⟩
    cases p with
    | nil => cases e; exact a
    | cons u p => cases e; exact b p w q rfl
structure Orde (n : Nat) (rs xss : List (List Int)) (f : List Int) (o : List Nat) : Prop where
  nd : o.Nodup
  lt : ∀ w ∈ o, w < n
  wk : walkM rs xss f o
structure Knot (n : Nat) (rs xss : List (List Int)) (f : List Int) (k : List Nat) : Prop where
  ne : k ≠ []
  inc : k.Pairwise (fun a b => a < b)
  lt : ∀ w ∈ k, w < n
  no : ∀ w ∈ k, fitsM (rs.getD w []) (growM xss f ((List.range n).filter fun v => decide (v ∉ k))) = false
def Safe (n : Nat) (rs xss : List (List Int)) (f : List Int) : Prop := ∃ o, Orde n rs xss f o ∧ o.length = n
theorem first_in {k : List Nat} : ∀ {o : List Nat}, (∃ w ∈ o, w ∈ k) → ∃ p w q, o = p ++ w :: q ∧ w ∈ k ∧ ∀ v ∈ p, v ∉ k
  | [], ⟨w, h, _⟩ => by cases h
  | v :: o, ⟨w, h, hk⟩ => by
    by_cases c : v ∈ k
    · exact ⟨[], v, o, rfl, c, by simp⟩
    · have hw : w ∈ o := by
        rcases List.mem_cons.mp h with z | z
        · exact absurd (z ▸ hk) c
        · exact z
      obtain ⟨p, u, q, e, hu, hp⟩ := first_in (o := o) ⟨w, hw, hk⟩
      refine ⟨v :: p, u, q, by rw [e]; rfl, hu, fun x hx => ?_⟩
      rcases List.mem_cons.mp hx with z | z
      · rw [z]; exact c
      · exact hp x z
/-- never both: no order where some workers, one at least, all stay stuck -/
theorem stuck_not_safe {m n : Nat} {rs xss : List (List Int)} {f : List Int} (Y : Yd m n rs xss) (hf : f.length = m) {k : List Nat} (hne : ∃ w ∈ k, w < n)
    (hno : ∀ w ∈ k, w < n → fitsM (rs.getD w []) (growM xss f ((List.range n).filter fun v => decide (v ∉ k))) = false) : ¬ Safe n rs xss f := by
  rintro ⟨o, O, ho⟩
  obtain ⟨w0, hw0, hl0⟩ := hne
  obtain ⟨p, w, q, e, hw, hp⟩ := first_in (k := k) (o := o) ⟨w0, all_in O.nd O.lt ho w0 hl0, hw0⟩
  have hwn : w < n := O.lt w (by rw [e]; simp)
  have hpl : ∀ v ∈ p, v < n := fun v hv => O.lt v (by rw [e]; simp [hv])
  have hpn : p.Nodup := by have := O.nd; rw [e, List.nodup_append] at this; exact this.1
  have hfit := walk_split.mp O.wk p w q e
  have hx : ∀ w, w < n → (xss.getD w []).length = m := fun w h => Y.xlen h
  have hSl : ∀ v ∈ (List.range n).filter (fun v => decide (v ∉ k)), v < n := fun v hv => List.mem_range.mp ((List.mem_filter.mp hv).1)
  have : fitsM (rs.getD w []) (growM xss f ((List.range n).filter fun v => decide (v ∉ k))) = true := by
    rw [fits_iff (by rw [Y.rlen hwn, grow_len hx hf hSl])]
    intro j
    have h1 := (fits_iff (by rw [Y.rlen hwn, grow_len hx hf hpl])).mp hfit j
    rw [at_grow hx j hf hpl] at h1
    rw [at_grow hx j hf hSl]
    have h2 := sumF_sub (g := fun w => (xss.getD w []).getD j 0) hpn (S := (List.range n).filter fun v => decide (v ∉ k)) (fun v hv => List.mem_filter.mpr ⟨List.mem_range.mpr (hpl v hv), decide_eq_true (hp v hv)⟩) fun v hv => Y.xnn (hSl v hv) j
    omega
  rw [hno w hw hwn] at this
  cases this
theorem Knot.not_safe {m n : Nat} {rs xss : List (List Int)} {f : List Int} (Y : Yd m n rs xss) (hf : f.length = m) {k : List Nat} (h : Knot n rs xss f k) : ¬ Safe n rs xss f := by
  refine stuck_not_safe Y hf ?_ fun w hw _ => h.no w hw
  cases k with
  | nil => exact absurd rfl h.ne
  | cons w k => exact ⟨w, List.mem_cons_self, h.lt w List.mem_cons_self⟩
theorem filter_perm {n : Nat} {o : List Nat} (hn : o.Nodup) (hl : ∀ w ∈ o, w < n) : o.Perm ((List.range n).filter fun v => decide (v ∉ (List.range n).filter fun u => decide (u ∉ o))) := by
  have hS : ((List.range n).filter fun v => decide (v ∉ (List.range n).filter fun u => decide (u ∉ o))).Nodup := List.Pairwise.filter _ List.nodup_range
  rw [List.perm_iff_count]
  intro a
  rw [hn.count, hS.count]
  have : a ∈ o ↔ a ∈ (List.range n).filter fun v => decide (v ∉ (List.range n).filter fun u => decide (u ∉ o)) := by
    rw [List.mem_filter, decide_eq_true_iff, List.mem_filter, decide_eq_true_iff, List.mem_range]
    refine ⟨fun h => ⟨hl a h, fun z => z.2 h⟩, fun h => Classical.byContradiction fun c => h.2 ⟨h.1, c⟩⟩
  by_cases h : a ∈ o
  · rw [if_pos h, if_pos (this.mp h)]
  · rw [if_neg h, if_neg fun z => h (this.mpr z)]
/-- what stays outside a walk that can't go on is a knot -/
theorem stuck_knot {n : Nat} {rs xss : List (List Int)} {f : List Int} {o : List Nat} (O : Orde n rs xss f o) (hne : (List.range n).filter (fun u => decide (u ∉ o)) ≠ [])
    (hno : ∀ w, w < n → w ∉ o → fitsM (rs.getD w []) (growM xss f o) = false) : Knot n rs xss f ((List.range n).filter fun u => decide (u ∉ o)) := by
  refine ⟨hne, List.Pairwise.filter _ List.pairwise_lt_range, fun w hw => List.mem_range.mp ((List.mem_filter.mp hw).1), fun w hw => ?_⟩
  rw [← grow_perm (filter_perm O.nd O.lt)]
  have := List.mem_filter.mp hw
  exact hno w (List.mem_range.mp this.1) (of_decide_eq_true this.2)
/-- a walk that can't go on, or is whole: it is whole where there is an order, and only there -/
theorem greedy_safe {m n : Nat} {rs xss : List (List Int)} {f : List Int} (Y : Yd m n rs xss) (hf : f.length = m) {o : List Nat} (O : Orde n rs xss f o)
    (h : n ≤ o.length ∨ ∀ w, w < n → w ∉ o → fitsM (rs.getD w []) (growM xss f o) = false) : o.length < n ↔ ¬ Safe n rs xss f := by
  refine ⟨fun hl => ?_, fun hs => ?_⟩
  · rcases h with h | h
    · omega
    · refine (stuck_knot O ?_ h).not_safe Y hf
      obtain ⟨w, hw, hwo⟩ := one_out hl
      exact List.ne_nil_of_mem (List.mem_filter.mpr ⟨List.mem_range.mpr hw, decide_eq_true hwo⟩)
  · refine Classical.byContradiction fun c => hs ⟨o, O, ?_⟩
    have := len_le O.nd O.lt
    omega
/-- all who are ready go at once -/
theorem ready_walk {m n : Nat} {rs xss : List (List Int)} (Y : Yd m n rs xss) : ∀ {rd : List Nat} {f : List Int}, f.length = m → (∀ w ∈ rd, w < n) → (∀ w ∈ rd, fitsM (rs.getD w []) f = true) → walkM rs xss f rd
  | [], _, _, _, _ => trivial
  | w :: rd, f, hf, hl, h => by
    have hw := hl w List.mem_cons_self
    have hlen : (vadd f (xss.getD w [])).length = m := by rw [vadd_len (by rw [hf, Y.xlen hw])]; exact hf
    refine ⟨h w List.mem_cons_self, ready_walk Y hlen (fun v hv => hl v (List.mem_cons_of_mem _ hv)) fun v hv => ?_⟩
    have hv' := hl v (List.mem_cons_of_mem _ hv)
    rw [fits_iff (by rw [Y.rlen hv', hlen])]
    intro j
    have h1 := (fits_iff (by rw [Y.rlen hv', hf])).mp (h v (List.mem_cons_of_mem _ hv)) j
    rw [at_vadd (by rw [hf, Y.xlen hw])]
    have := Y.xnn hw j
    omega
def freeM (st : List Int) (xss : List (List Int)) : List Int := xss.foldl vsub st
def restsM (css xss : List (List Int)) : List (List Int) := List.zipWith vsub css xss
theorem rests_at {css xss : List (List Int)} {w : Nat} (h : css.length = xss.length) (hw : w < xss.length) : (restsM css xss).getD w [] = vsub (css.getD w []) (xss.getD w []) := by
  unfold restsM
  rw [List.getD_eq_getElem?_getD, List.getElem?_zipWith, List.getElem?_eq_getElem (by omega : w < css.length), List.getElem?_eq_getElem hw, List.getD_eq_getElem?_getD, List.getElem?_eq_getElem (by omega : w < css.length), List.getD_eq_getElem?_getD, List.getElem?_eq_getElem hw]
  rfl
theorem rests_len {css xss : List (List Int)} (h : css.length = xss.length) : (restsM css xss).length = xss.length := by unfold restsM; rw [List.length_zipWith]; omega
theorem yd_of {m : Nat} {css xss : List (List Int)} (h : css.length = xss.length) (hc : ∀ x ∈ css, x.length = m) (hx : ∀ x ∈ xss, x.length = m) (hn : ∀ x ∈ xss, ∀ y ∈ x, 0 ≤ y) : Yd m xss.length (restsM css xss) xss := by
  refine ⟨rests_len h, rfl, fun x hx' => ?_, hx, hn⟩
  obtain ⟨w, e⟩ := List.getElem?_of_mem hx'
  have hw : w < xss.length := by
    have := (List.getElem?_eq_some_iff.mp e).1
    rw [rests_len h] at this
    exact this
  have e2 : (restsM css xss).getD w [] = x := by rw [List.getD_eq_getElem?_getD, e]; rfl
  have h1 : (css.getD w []).length = m := hc _ (row_mem (by omega))
  have h2 : (xss.getD w []).length = m := hx _ (row_mem hw)
  rw [← e2, rests_at h hw, vsub_len (by omega), h1]
theorem wait_next {n : Nat} {o : List Nat} {p : Nat → Bool} :
    (((List.range n).filter fun u => decide (u ∉ o)).filter fun w => !decide (w ∈ ((List.range n).filter fun u => decide (u ∉ o)).filter p)) = (List.range n).filter fun u => decide (u ∉ o ++ ((List.range n).filter fun u => decide (u ∉ o)).filter p) := by
  rw [List.filter_filter]
  refine List.filter_congr fun w hw => ?_
  generalize hS : ((List.range n).filter fun u => decide (u ∉ o)).filter p = S
  by_cases h1 : w ∈ o <;> by_cases h2 : w ∈ S <;> simp [h1, h2]
theorem wait_less {wt rd : List Nat} {w : Nat} (h : w ∈ rd) (hw : w ∈ wt) : (wt.filter fun v => !decide (v ∈ rd)).length < wt.length := by
  rw [List.length_filter_lt_length_iff_exists]
  exact ⟨w, hw, by simp [h]⟩

/-! ### giving back, in plain lists -/
def retM (xss : List (List Int)) (wk : Int) (am : List Int) : Except Xk (List (List Int)) :=
  if wk < 0 ∨ (xss.length : Int) ≤ wk then .error .noWorker
  else if am.any (fun x => decide (x < 0)) = true then .error .noAmount
  else if fitsM am (xss.getD wk.toNat []) = true then .ok (xss.set wk.toNat (vsub (xss.getD wk.toNat []) am)) else .error .notLent
def wordX : Xk → Str
  | .noWorker => "no worker"
  | .noAmount => "no amount"
  | .overClaim => "over claim"
  | .notFree => "not free"
  | .knotted => "knot"
  | .notLent => "not lent"
theorem retM_ok {xss yss : List (List Int)} {wk : Int} {am : List Int} (h : retM xss wk am = .ok yss) : 0 ≤ wk ∧ wk < (xss.length : Int) ∧ yss = xss.set wk.toNat (vsub (xss.getD wk.toNat []) am) := by
  unfold retM at h
  split at h
  · cases h
  · rename_i h1
    split at h
    · cases h
    · split at h
      · cases h
        exact ⟨by omega, by omega, rfl⟩
      · cases h
theorem retM_err {xss : List (List Int)} {wk : Int} {am : List Int} {i : Xk} (h : retM xss wk am = .error i) : i = .noWorker ∨ i = .noAmount ∨ i = .notLent := by
  unfold retM at h
  split at h
  · cases h; exact .inl rfl
  · split at h
    · cases h; exact .inr (.inl rfl)
    · split at h
      · cases h
      · cases h; exact .inr (.inr rfl)
/-- what a call that gives back promises -/
def afterRet (H : Hp) (Q : VK) (E : XK) (ca : CA) : Except Xk (List (List Int)) → Prop
  | .error i => ∀ H', Same H H' → E (.ref (ca.at i)) none H'
  | .ok yss => ∀ H' L qs, Same H H' → H' L = some (.lst (refL qs)) → Rows H' qs yss → H L = none → (∀ r ∈ qs, H r = none) → Q (.ref L) H'
def spReturned (K : PySem.W.Frag) (ca : CA) : Sp := fun vs H Q E => ∃ (a b : Addr) (rs : List Addr) (xss : List (List Int)) (wk : Int) (am : List Int), vs = [.ref a, .int wk, .ref b] ∧ SqL K H a (refL rs) ∧ Rows H rs xss ∧ SqL K H b (intL am) ∧
  (∀ x ∈ xss, x.length = am.length) ∧ xss.length ≤ 1000 ∧ am.length ≤ 1000 ∧ afterRet H Q E ca (retM xss wk am)

/-! ### lending and a day, in plain lists -/
def SafeM (st : List Int) (css xss : List (List Int)) : Prop := Safe xss.length (restsM css xss) xss (freeM st xss)
open Classical in
noncomputable def lentM (st : List Int) (css xss : List (List Int)) (wk : Int) (am : List Int) : Except Xk (List (List Int)) :=
  if wk < 0 ∨ (xss.length : Int) ≤ wk then .error .noWorker
  else if am.any (fun x => decide (x < 0)) = true then .error .noAmount
  else if fitsM (vadd (xss.getD wk.toNat []) am) (css.getD wk.toNat []) = false then .error .overClaim
  else if fitsM am (freeM st xss) = false then .error .notFree
  else if SafeM st css (xss.set wk.toNat (vadd (xss.getD wk.toNat []) am)) then .ok (xss.set wk.toNat (vadd (xss.getD wk.toNat []) am)) else .error .knotted
/-- lists of the right lengths, no loan below nought -/
structure Gd (st : List Int) (css xss : List (List Int)) : Prop where
  lc : css.length = xss.length
  rc : ∀ x ∈ css, x.length = st.length
  rx : ∀ x ∈ xss, x.length = st.length
  nn : ∀ x ∈ xss, ∀ y ∈ x, 0 ≤ y
theorem Gd.yd {st : List Int} {css xss : List (List Int)} (G : Gd st css xss) : Yd st.length xss.length (restsM css xss) xss := yd_of G.lc G.rc G.rx G.nn
theorem Gd.free {st : List Int} {css xss : List (List Int)} (G : Gd st css xss) : (freeM st xss).length = st.length := subAll_len G.rx rfl
theorem any_neg {am : List Int} (h : ¬ am.any (fun x => decide (x < 0)) = true) : ∀ y ∈ am, 0 ≤ y := by
  intro y hy
  refine Classical.byContradiction fun c => h ?_
  rw [List.any_eq_true]
  exact ⟨y, hy, decide_eq_true (by omega)⟩
theorem Gd.set {st : List Int} {css xss : List (List Int)} (G : Gd st css xss) {k : Nat} {x : List Int} (hl : x.length = st.length) (hn : ∀ y ∈ x, 0 ≤ y) : Gd st css (xss.set k x) := by
  refine ⟨by rw [List.length_set]; exact G.lc, G.rc, fun y hy => ?_, fun y hy => ?_⟩
  · rcases List.mem_or_eq_of_mem_set hy with z | z
    · exact G.rx y z
    · rw [z]; exact hl
  · rcases List.mem_or_eq_of_mem_set hy with z | z
    · exact G.nn y z
    · rw [z]; exact hn
theorem nn_vadd {a b : List Int} (hl : a.length = b.length) (ha : ∀ y ∈ a, 0 ≤ y) (hb : ∀ y ∈ b, 0 ≤ y) : ∀ y ∈ vadd a b, 0 ≤ y := by
  refine nonneg_of_at fun j => ?_
  rw [at_vadd hl]
  have := at_nonneg ha j
  have := at_nonneg hb j
  omega
theorem nn_vsub {a b : List Int} (hl : a.length = b.length) (hf : fitsM b a = true) : ∀ y ∈ vsub a b, 0 ≤ y := by
  refine nonneg_of_at fun j => ?_
  rw [at_vsub hl]
  have := (fits_iff hl.symm).mp hf j
  omega
theorem Gd.lend {st : List Int} {css xss : List (List Int)} (G : Gd st css xss) {k : Nat} {am : List Int} (hk : k < xss.length) (hl : am.length = st.length) (hn : ∀ y ∈ am, 0 ≤ y) : Gd st css (xss.set k (vadd (xss.getD k []) am)) := by
  have h1 : (xss.getD k []).length = st.length := G.rx _ (row_mem hk)
  exact G.set (by rw [vadd_len (by omega)]; exact h1) (nn_vadd (by omega) (G.nn _ (row_mem hk)) hn)
theorem Gd.give {st : List Int} {css xss : List (List Int)} (G : Gd st css xss) {k : Nat} {am : List Int} (hk : k < xss.length) (hl : am.length = st.length) (hf : fitsM am (xss.getD k []) = true) : Gd st css (xss.set k (vsub (xss.getD k []) am)) := by
  have h1 : (xss.getD k []).length = st.length := G.rx _ (row_mem hk)
  exact G.set (by rw [vsub_len (by omega)]; exact h1) (nn_vsub (by omega) hf)
structure Deed where
  ask : Bool
  wk : Int
  am : List Int
def Deed.word (d : Deed) : Str := if d.ask then "ask" else "give"
noncomputable def doneM (st : List Int) (css xss : List (List Int)) (d : Deed) : Except Xk (List (List Int)) := if d.ask then lentM st css xss d.wk d.am else retM xss d.wk d.am
def Deed.good (d : Deed) : Str := if d.ask then "lent" else "given back"
noncomputable def stepM (st : List Int) (css xss : List (List Int)) (d : Deed) : Str × List (List Int) :=
  match doneM st css xss d with
  | .ok yss => (d.good, yss)
  | .error i => (wordX i, xss)
theorem lentM_ok {st : List Int} {css xss yss : List (List Int)} {wk : Int} {am : List Int} (h : lentM st css xss wk am = .ok yss) : 0 ≤ wk ∧ wk.toNat < xss.length ∧ (∀ y ∈ am, 0 ≤ y) ∧ fitsM (vadd (xss.getD wk.toNat []) am) (css.getD wk.toNat []) = true ∧ fitsM am (freeM st xss) = true ∧
    SafeM st css yss ∧ yss = xss.set wk.toNat (vadd (xss.getD wk.toNat []) am) := by
  unfold lentM at h
  split at h
  · cases h
  · rename_i h1
    split at h
    · cases h
    · rename_i h2
      split at h
      · cases h
      · rename_i h3
        split at h
        · cases h
        · rename_i h4
          split at h
          · rename_i h5
            cases h
            exact ⟨by omega, by omega, any_neg h2, Bool.not_eq_false _ ▸ h3, Bool.not_eq_false _ ▸ h4, h5, rfl⟩
          · cases h
theorem retM_ok2 {xss yss : List (List Int)} {wk : Int} {am : List Int} (h : retM xss wk am = .ok yss) : 0 ≤ wk ∧ wk.toNat < xss.length ∧ (∀ y ∈ am, 0 ≤ y) ∧ fitsM am (xss.getD wk.toNat []) = true ∧ yss = xss.set wk.toNat (vsub (xss.getD wk.toNat []) am) := by
  unfold retM at h
  split at h
  · cases h
  · rename_i h1
    split at h
    · cases h
    · rename_i h2
      split at h
      · rename_i h3
        cases h
        exact ⟨by omega, by omega, any_neg h2, h3, rfl⟩
      · cases h
theorem step_gd {st : List Int} {css xss : List (List Int)} {d : Deed} (G : Gd st css xss) (hl : d.am.length = st.length) : Gd st css (stepM st css xss d).2 := by
  unfold stepM
  cases e : doneM st css xss d with
  | error i => exact G
  | ok yss =>
    unfold doneM at e
    cases ha : d.ask with
    | true =>
      rw [ha, if_pos rfl] at e
      obtain ⟨h1, h2, h3, _, _, _, rfl⟩ := lentM_ok e
      exact G.lend h2 hl h3
    | false =>
      rw [ha, if_neg (by decide)] at e
      obtain ⟨h1, h2, h3, h4, rfl⟩ := retM_ok2 e
      exact G.give h2 hl h4
theorem step_len {st : List Int} {css xss : List (List Int)} {d : Deed} : (stepM st css xss d).2.length = xss.length := by
  unfold stepM
  cases e : doneM st css xss d with
  | error i => rfl
  | ok yss =>
    unfold doneM at e
    cases ha : d.ask with
    | true =>
      rw [ha, if_pos rfl] at e
      obtain ⟨_, _, _, _, _, _, rfl⟩ := lentM_ok e
      exact List.length_set
    | false =>
      rw [ha, if_neg (by decide)] at e
      obtain ⟨_, _, _, _, rfl⟩ := retM_ok2 e
      exact List.length_set
noncomputable def runM (st : List Int) (css : List (List Int)) : List (List Int) → List Deed → List (List Int)
  | xss, [] => xss
  | xss, d :: ds => runM st css (stepM st css xss d).2 ds
noncomputable def dayM (st : List Int) (css : List (List Int)) : List (List Int) → List Deed → List (Str × List (List Int))
  | _, [] => []
  | xss, d :: ds => stepM st css xss d :: dayM st css (stepM st css xss d).2 ds
theorem run_append {st : List Int} {css : List (List Int)} : ∀ {ds es : List Deed} {xss : List (List Int)}, runM st css xss (ds ++ es) = runM st css (runM st css xss ds) es
  | [], _, _ => rfl
  | d :: ds, es, xss => run_append (ds := ds) (xss := (stepM st css xss d).2)
theorem day_append {st : List Int} {css : List (List Int)} : ∀ {ds es : List Deed} {xss : List (List Int)}, dayM st css xss (ds ++ es) = dayM st css xss ds ++ dayM st css (runM st css xss ds) es
  | [], _, _ => rfl
  | d :: ds, es, xss => by
    show stepM st css xss d :: dayM st css (stepM st css xss d).2 (ds ++ es) = stepM st css xss d :: (dayM st css (stepM st css xss d).2 ds ++ _)
    rw [day_append (ds := ds)]
    rfl
theorem day_len {st : List Int} {css : List (List Int)} : ∀ {ds : List Deed} {xss : List (List Int)}, (dayM st css xss ds).length = ds.length
  | [], _ => rfl
  | d :: ds, xss => by
    show (dayM st css (stepM st css xss d).2 ds).length + 1 = ds.length + 1
    rw [day_len (ds := ds)]
theorem run_gd {st : List Int} {css : List (List Int)} : ∀ {ds : List Deed} {xss : List (List Int)}, Gd st css xss → (∀ d ∈ ds, d.am.length = st.length) → Gd st css (runM st css xss ds)
  | [], _, G, _ => G
  | d :: ds, xss, G, h => run_gd (ds := ds) (step_gd G (h d List.mem_cons_self)) fun e he => h e (List.mem_cons_of_mem _ he)
theorem run_len {st : List Int} {css : List (List Int)} : ∀ {ds : List Deed} {xss : List (List Int)}, (runM st css xss ds).length = xss.length
  | [], _ => rfl
  | d :: ds, xss => by
    show (runM st css (stepM st css xss d).2 ds).length = xss.length
    rw [run_len (ds := ds), step_len]
theorem day_get {st : List Int} {css : List (List Int)} {ds : List Deed} {xss : List (List Int)} {i : Nat} {d : Deed} (h : ds[i]? = some d) : (dayM st css xss ds)[i]? = some (stepM st css (runM st css xss (ds.take i)) d) := by
  obtain ⟨hi, he⟩ := List.getElem?_eq_some_iff.mp h
  have e : ds = ds.take i ++ d :: ds.drop (i + 1) := by rw [← he, ← List.drop_eq_getElem_cons hi, List.take_append_drop]
  have hl : (dayM st css xss (ds.take i)).length = i := by rw [day_len, List.length_take]; omega
  conv => lhs; rw [e, day_append]
  rw [List.getElem?_append_right (by omega), hl, Nat.sub_self]
  rfl
section
variable {st : List Int} {css xss : List (List Int)} {d : Deed}
theorem step_err {i : Xk} (h : doneM st css xss d = .error i) : stepM st css xss d = (wordX i, xss) := by unfold stepM; rw [h]
theorem step_ok {yss : List (List Int)} (h : doneM st css xss d = .ok yss) : stepM st css xss d = (d.good, yss) := by unfold stepM; rw [h]
theorem done_noWorker (h : d.wk < 0 ∨ (xss.length : Int) ≤ d.wk) : doneM st css xss d = .error .noWorker := by
  unfold doneM lentM retM; rw [if_pos h, if_pos h]; split <;> rfl
theorem done_noAmount (h : ¬ (d.wk < 0 ∨ (xss.length : Int) ≤ d.wk)) (h2 : d.am.any (fun x => decide (x < 0)) = true) : doneM st css xss d = .error .noAmount := by
  unfold doneM lentM retM; rw [if_neg h, if_neg h, if_pos h2, if_pos h2]; split <;> rfl
theorem done_give (h : ¬ (d.wk < 0 ∨ (xss.length : Int) ≤ d.wk)) (h2 : ¬ d.am.any (fun x => decide (x < 0)) = true) (ha : d.ask = false) :
    doneM st css xss d = if fitsM d.am (xss.getD d.wk.toNat []) = true then .ok (xss.set d.wk.toNat (vsub (xss.getD d.wk.toNat []) d.am)) else .error .notLent := by
  unfold doneM retM; rw [ha, if_neg (by decide), if_neg h, if_neg h2]
theorem done_over (h : ¬ (d.wk < 0 ∨ (xss.length : Int) ≤ d.wk)) (h2 : ¬ d.am.any (fun x => decide (x < 0)) = true) (ha : d.ask = true) (h3 : fitsM (vadd (xss.getD d.wk.toNat []) d.am) (css.getD d.wk.toNat []) = false) : doneM st css xss d = .error .overClaim := by
  unfold doneM lentM; rw [ha, if_pos rfl, if_neg h, if_neg h2, if_pos h3]
theorem done_notFree (h : ¬ (d.wk < 0 ∨ (xss.length : Int) ≤ d.wk)) (h2 : ¬ d.am.any (fun x => decide (x < 0)) = true) (ha : d.ask = true) (h3 : ¬ fitsM (vadd (xss.getD d.wk.toNat []) d.am) (css.getD d.wk.toNat []) = false) (h4 : fitsM d.am (freeM st xss) = false) : doneM st css xss d = .error .notFree := by
  unfold doneM lentM; rw [ha, if_pos rfl, if_neg h, if_neg h2, if_neg h3, if_pos h4]
theorem done_knot (h : ¬ (d.wk < 0 ∨ (xss.length : Int) ≤ d.wk)) (h2 : ¬ d.am.any (fun x => decide (x < 0)) = true) (ha : d.ask = true) (h3 : ¬ fitsM (vadd (xss.getD d.wk.toNat []) d.am) (css.getD d.wk.toNat []) = false) (h4 : ¬ fitsM d.am (freeM st xss) = false)
    (h5 : ¬ SafeM st css (xss.set d.wk.toNat (vadd (xss.getD d.wk.toNat []) d.am))) : doneM st css xss d = .error .knotted := by
  unfold doneM lentM; rw [ha, if_pos rfl, if_neg h, if_neg h2, if_neg h3, if_neg h4, if_neg h5]
theorem done_lent (h : ¬ (d.wk < 0 ∨ (xss.length : Int) ≤ d.wk)) (h2 : ¬ d.am.any (fun x => decide (x < 0)) = true) (ha : d.ask = true) (h3 : ¬ fitsM (vadd (xss.getD d.wk.toNat []) d.am) (css.getD d.wk.toNat []) = false) (h4 : ¬ fitsM d.am (freeM st xss) = false)
    (h5 : SafeM st css (xss.set d.wk.toNat (vadd (xss.getD d.wk.toNat []) d.am))) : doneM st css xss d = .ok (xss.set d.wk.toNat (vadd (xss.getD d.wk.toNat []) d.am)) := by
  unfold doneM lentM; rw [ha, if_pos rfl, if_neg h, if_neg h2, if_neg h3, if_neg h4, if_pos h5]
end
def zerosM (css : List (List Int)) (m : Nat) : List (List Int) := css.map fun _ => List.replicate m 0
theorem zeros_gd {st : List Int} {css : List (List Int)} (hc : ∀ x ∈ css, x.length = st.length) : Gd st css (zerosM css st.length) := by
  refine ⟨by unfold zerosM; rw [List.length_map], hc, fun x hx => ?_, fun x hx y hy => ?_⟩
  · obtain ⟨_, _, rfl⟩ := List.mem_map.mp hx
    exact List.length_replicate
  · obtain ⟨_, _, rfl⟩ := List.mem_map.mp hx
    rw [List.eq_of_mem_replicate hy]
    exact Int.le_refl _

/-! ### what stays so behind every deed -/
def csum (j : Nat) : List (List Int) → Int
  | [] => 0
  | x :: xss => x.getD j 0 + csum j xss
theorem at_free {m : Nat} (j : Nat) : ∀ {xss : List (List Int)} {st : List Int}, st.length = m → (∀ x ∈ xss, x.length = m) → (freeM st xss).getD j 0 = st.getD j 0 - csum j xss
  | [], st, _, _ => by show st.getD j 0 = st.getD j 0 - 0; omega
  | x :: xss, st, h, hx => by
    have hl : st.length = x.length := by rw [h, hx x List.mem_cons_self]
    have ih := at_free j (xss := xss) (st := vsub st x) (by rw [vsub_len hl]; exact h) fun y hy => hx y (List.mem_cons_of_mem _ hy)
    show (freeM (vsub st x) xss).getD j 0 = st.getD j 0 - (x.getD j 0 + csum j xss)
    rw [ih, at_vsub hl]; omega
theorem csum_set (j : Nat) : ∀ {xss : List (List Int)} {k : Nat} {y : List Int}, k < xss.length → csum j (xss.set k y) = csum j xss - (xss.getD k []).getD j 0 + y.getD j 0
  | [], k, y, h => by simp at h
  | x :: xss, 0, y, _ => by show y.getD j 0 + csum j xss = x.getD j 0 + csum j xss - x.getD j 0 + y.getD j 0; omega
  | x :: xss, k + 1, y, h => by
    have ih := csum_set j (xss := xss) (k := k) (y := y) (by simpa using h)
    show x.getD j 0 + csum j (xss.set k y) = x.getD j 0 + csum j xss - (xss.getD k []).getD j 0 + y.getD j 0
    rw [ih]; omega
theorem sumF_map {g : Nat → Int} {f : Nat → Nat} : ∀ {l : List Nat}, sumF g (l.map f) = sumF (fun w => g (f w)) l
  | [] => rfl
  | w :: l => by show g (f w) + sumF g (l.map f) = g (f w) + sumF _ l; rw [sumF_map]
theorem csum_range (j : Nat) : ∀ {xss : List (List Int)}, csum j xss = sumF (fun w => (xss.getD w []).getD j 0) (List.range xss.length)
  | [] => rfl
  | x :: xss => by
    rw [List.length_cons, List.range_succ_eq_map]
    show x.getD j 0 + csum j xss = x.getD j 0 + sumF _ ((List.range xss.length).map Nat.succ)
    rw [sumF_map, csum_range (xss := xss)]
    rfl
theorem row_set {xss : List (List Int)} {k w : Nat} {y : List Int} (hk : k < xss.length) : (xss.set k y).getD w [] = if w = k then y else xss.getD w [] := by
  by_cases h : w = k
  · rw [if_pos h, h, List.getD_eq_getElem?_getD, List.getElem?_set_self hk]; rfl
  · rw [if_neg h, List.getD_eq_getElem?_getD, List.getElem?_set_ne (fun e => h e.symm), ← List.getD_eq_getElem?_getD]
structure Sd (st : List Int) (css xss : List (List Int)) : Prop where
  g : Gd st css xss
  le : ∀ w, w < xss.length → fitsM (xss.getD w []) (css.getD w []) = true
  fr : ∀ j : Nat, 0 ≤ (freeM st xss).getD j 0
  sf : SafeM st css xss
section
variable {st : List Int} {css xss : List (List Int)}
theorem Gd.lc' (G : Gd st css xss) {w : Nat} (h : w < xss.length) : (css.getD w []).length = st.length := G.rc _ (row_mem (by rw [G.lc]; exact h))
theorem Gd.lx' (G : Gd st css xss) {w : Nat} (h : w < xss.length) : (xss.getD w []).length = st.length := G.rx _ (row_mem h)
theorem Gd.at_rest (G : Gd st css xss) {w : Nat} (h : w < xss.length) (j : Nat) : ((restsM css xss).getD w []).getD j 0 = (css.getD w []).getD j 0 - (xss.getD w []).getD j 0 := by
  rw [rests_at G.lc h, at_vsub (by rw [G.lc' h, G.lx' h])]
theorem Gd.at_free (G : Gd st css xss) (j : Nat) : (freeM st xss).getD j 0 = st.getD j 0 - csum j xss := My.at_free j rfl G.rx
/-- to fit, place by place -/
theorem Gd.fit_iff (G : Gd st css xss) {w : Nat} (h : w < xss.length) {p : List Nat} (hp : ∀ v ∈ p, v < xss.length) :
    fitsM ((restsM css xss).getD w []) (growM xss (freeM st xss) p) = true ↔ ∀ j : Nat, (css.getD w []).getD j 0 - (xss.getD w []).getD j 0 ≤ (freeM st xss).getD j 0 + sumF (fun v => (xss.getD v []).getD j 0) p := by
  have hx : ∀ w, w < xss.length → (xss.getD w []).length = st.length := fun w h => G.lx' h
  rw [fits_iff (by rw [G.yd.rlen h, grow_len hx G.free hp])]
  refine ⟨fun z j => ?_, fun z j => ?_⟩
  · have := z j
    rw [G.at_rest h, at_grow hx j G.free hp] at this
    exact this
  · rw [G.at_rest h, at_grow hx j G.free hp]
    exact z j
theorem sumF_set {k : Nat} {y : List Int} (hk : k < xss.length) (j : Nat) : ∀ {p : List Nat}, p.Nodup →
    sumF (fun v => ((xss.set k y).getD v []).getD j 0) p = sumF (fun v => (xss.getD v []).getD j 0) p + if k ∈ p then y.getD j 0 - (xss.getD k []).getD j 0 else 0
  | [], _ => by simp [sumF]
  | w :: p, hn => by
    have hn' := List.nodup_cons.mp hn
    show ((xss.set k y).getD w []).getD j 0 + sumF _ p = (xss.getD w []).getD j 0 + sumF _ p + _
    rw [sumF_set hk j hn'.2, row_set hk]
    by_cases h : w = k
    · subst h
      rw [if_pos rfl, if_neg hn'.1, if_pos List.mem_cons_self]; omega
    · have : k ∈ w :: p ↔ k ∈ p := by
        rw [List.mem_cons]
        exact ⟨fun z => z.resolve_left fun c => h c.symm, .inr⟩
      rw [if_neg h]
      by_cases c : k ∈ p
      · rw [if_pos c, if_pos (this.mpr c)]; omega
      · rw [if_neg c, if_neg fun z => c (this.mp z)]; omega
/-- giving back never makes a knot -/
theorem give_safe (G : Gd st css xss) {k : Nat} {am : List Int} (hk : k < xss.length) (hl : am.length = st.length) (hn : ∀ y ∈ am, 0 ≤ y) (hf : fitsM am (xss.getD k []) = true) (hs : SafeM st css xss) : SafeM st css (xss.set k (vsub (xss.getD k []) am)) := by
  obtain ⟨o, Od, ho⟩ := hs
  have G2 := G.give hk hl hf
  have hlen : (xss.set k (vsub (xss.getD k []) am)).length = xss.length := List.length_set
  have hlk := G.lx' hk
  refine ⟨o, ⟨Od.nd, fun w hw => by rw [hlen]; exact Od.lt w hw, ?_⟩, by rw [hlen]; exact ho⟩
  rw [walk_split]
  intro p w q e
  have hw : w < xss.length := Od.lt w (by rw [e]; simp)
  have hp : ∀ v ∈ p, v < xss.length := fun v hv => Od.lt v (by rw [e]; simp [hv])
  have hnd := Od.nd
  rw [e, List.nodup_append] at hnd
  have old := (G.fit_iff hw hp).mp (walk_split.mp Od.wk p w q e)
  rw [G2.fit_iff (by rw [hlen]; exact hw) (fun v hv => by rw [hlen]; exact hp v hv)]
  intro j
  have h1 := old j
  have h2 := at_nonneg hn j
  rw [G2.at_free, csum_set j hk, sumF_set hk j hnd.1, row_set hk]
  rw [G.at_free] at h1
  have h3 : (vsub (xss.getD k []) am).getD j 0 = (xss.getD k []).getD j 0 - am.getD j 0 := at_vsub (by omega) j
  rw [h3]
  by_cases c : w = k
  · have : k ∉ p := fun z => hnd.2.2 k z w List.mem_cons_self c.symm
    rw [if_pos c, if_neg this, h3]
    rw [c] at h1 ⊢
    omega
  · rw [if_neg c]
    split <;> omega
theorem step_sd {d : Deed} (S : Sd st css xss) (hl : d.am.length = st.length) : Sd st css (stepM st css xss d).2 := by
  have G2 := step_gd S.g hl
  cases e : doneM st css xss d with
  | error i => rw [step_err e]; exact S
  | ok yss =>
    rw [step_ok e] at G2 ⊢
    dsimp only at G2 ⊢
    unfold doneM at e
    cases ha : d.ask with
    | true =>
      rw [ha, if_pos rfl] at e
      obtain ⟨h1, hk, hn, hc, hf, hs, rfl⟩ := lentM_ok e
      generalize d.wk.toNat = k at *
      have hlk := S.g.lx' hk
      refine ⟨G2, fun w hw => ?_, fun j => ?_, hs⟩
      · rw [List.length_set] at hw
        rw [row_set hk]
        by_cases c : w = k
        · rw [if_pos c, c]; exact hc
        · rw [if_neg c]; exact S.le w hw
      · rw [G2.at_free, csum_set j hk, at_vadd (by omega)]
        have := (fits_iff (by rw [hl, S.g.free])).mp hf j
        rw [S.g.at_free] at this
        omega
    | false =>
      rw [ha, if_neg (by decide)] at e
      obtain ⟨h1, hk, hn, hf, rfl⟩ := retM_ok2 e
      generalize d.wk.toNat = k at *
      have hlk := S.g.lx' hk
      refine ⟨G2, fun w hw => ?_, fun j => ?_, give_safe S.g hk hl hn hf S.sf⟩
      · rw [List.length_set] at hw
        rw [row_set hk]
        by_cases c : w = k
        · subst c
          rw [if_pos rfl, fits_iff (by rw [vsub_len (by omega), hlk, S.g.lc' hw])]
          intro j
          have h1 := (fits_iff (by rw [hlk, S.g.lc' hw])).mp (S.le w hw) j
          have h2 := at_nonneg hn j
          rw [at_vsub (by omega)]
          omega
        · rw [if_neg c]; exact S.le w hw
      · rw [G2.at_free, csum_set j hk, at_vsub (by omega)]
        have h1 := S.fr j
        rw [S.g.at_free] at h1
        have h2 := at_nonneg hn j
        omega
end
theorem run_sd {st : List Int} {css : List (List Int)} : ∀ {ds : List Deed} {xss : List (List Int)}, Sd st css xss → (∀ d ∈ ds, d.am.length = st.length) → Sd st css (runM st css xss ds)
  | [], _, S, _ => S
  | d :: ds, xss, S, h => run_sd (ds := ds) (step_sd S (h d List.mem_cons_self)) fun e he => h e (List.mem_cons_of_mem _ he)
theorem zeros_row {css : List (List Int)} {m w : Nat} (h : w < css.length) : (zerosM css m).getD w [] = List.replicate m 0 := by
  unfold zerosM
  rw [List.getD_eq_getElem?_getD, List.getElem?_map, List.getElem?_eq_getElem h]; rfl
theorem at_zeros (m j : Nat) : (List.replicate m (0 : Int)).getD j 0 = 0 := by
  rw [List.getD_eq_getElem?_getD]
  cases e : (List.replicate m (0 : Int))[j]? with
  | none => rfl
  | some y => exact List.eq_of_mem_replicate (List.mem_of_getElem? e)
theorem csum_zeros (j m : Nat) : ∀ {css : List (List Int)}, csum j (zerosM css m) = 0
  | [] => rfl
  | x :: css => by
    show (List.replicate m (0 : Int)).getD j 0 + csum j (zerosM css m) = 0
    rw [at_zeros, csum_zeros]; rfl
theorem sumF_zero {g : Nat → Int} : ∀ {p : List Nat}, (∀ v ∈ p, g v = 0) → sumF g p = 0
  | [], _ => rfl
  | w :: p, h => by
    show g w + sumF g p = 0
    rw [h w List.mem_cons_self, sumF_zero fun v hv => h v (List.mem_cons_of_mem _ hv)]; rfl
theorem zeros_sd {st : List Int} {css : List (List Int)} (hc : ∀ x ∈ css, x.length = st.length) (hn : ∀ x ∈ css, ∀ y ∈ x, 0 ≤ y) (hf : ∀ x ∈ css, fitsM x st = true) (hs : ∀ y ∈ st, 0 ≤ y) : Sd st css (zerosM css st.length) := by
  have G := zeros_gd hc
  have hl : (zerosM css st.length).length = css.length := by unfold zerosM; rw [List.length_map]
  refine ⟨G, fun w hw => ?_, fun j => ?_, List.range css.length, ⟨List.nodup_range, fun w hw => by rw [hl]; exact List.mem_range.mp hw, ?_⟩, by rw [hl, List.length_range]⟩
  · rw [hl] at hw
    rw [zeros_row hw, fits_iff (by rw [List.length_replicate, hc _ (row_mem hw)])]
    intro j
    rw [at_zeros]
    exact at_nonneg (hn _ (row_mem hw)) j
  · rw [G.at_free, csum_zeros]
    have := at_nonneg hs j
    omega
  · rw [walk_split]
    intro p w q e
    have hw : w < css.length := List.mem_range.mp (by rw [e]; simp)
    have hp : ∀ v ∈ p, v < css.length := fun v hv => List.mem_range.mp (by rw [e]; simp [hv])
    rw [G.fit_iff (by rw [hl]; exact hw) (fun v hv => by rw [hl]; exact hp v hv)]
    intro j
    rw [G.at_free, csum_zeros, zeros_row hw, at_zeros, sumF_zero fun v hv => by rw [zeros_row (hp v hv), at_zeros]]
    have := (fits_iff (hc _ (row_mem hw))).mp (hf _ (row_mem hw)) j
    omega

theorem no_neg {am : List Int} (h : ∀ y ∈ am, 0 ≤ y) : ¬ am.any (fun x => decide (x < 0)) = true := by
  rw [List.any_eq_true]
  rintro ⟨y, hy, z⟩
  have := h y hy
  have := of_decide_eq_true z
  omega

def spCopies (K : PySem.W.Frag) : Sp := fun vs H Q _ => ∃ (a : Addr) (rs : List Addr) (xss : List (List Int)), vs = [.ref a] ∧ SqL K H a (refL rs) ∧ Rows H rs xss ∧ xss.length ≤ 1000 ∧
  ∀ H' L qs, Same H H' → H' L = some (.lst (refL qs)) → Rows H' qs xss → H L = none → (∀ r ∈ qs, H r = none) → L ∉ qs → Q (.ref L) H'
theorem ok_copies (bi : BI mg) {ca : CA} (ck : CK K mg ca)
    {f : Addr} {fd : FuncData} (F : Fun K "copies" "copies" s_copies f fd) : FnOk P w K mg base CX0 2 f fd ["loans"] (spCopies K) := by
  refine F.ok sc_copies (fun vs H Q E h => ?_) (fun cdv A outer s H vs Q E hr h => ?_)
  · obtain ⟨a, rs, xss, rfl, _⟩ := h
    rfl
  obtain ⟨a, rs, xss, rfl, hS, hR, hz, q⟩ := h
  refine ⟨_, (pss_one (ps_ret (pe_comp (blk_mk (own := ["loan"]) (caps := []) (js := []) rfl (by decide +kernel) (by decide +kernel) rfl trivial) rfl (pi_listK (K := K) rfl (pv 0)) (fun _ _ _ _ => (pg_name (i := 0) (show (["loan"] : List Str).Nodup by decide +kernel) rfl (Or.inl rfl))) (fun _ _ _ _ => pif_nil) (fun _ _ _ _ => (pe_callTy (call_list_ofK (K := K) rfl) rfl bi.list BootN.list (pa_cons (pv 0) pa_nil)))))), ?_⟩
  refine ⟨_, rfl, a, rfl, ⟨_, hS⟩, ?_⟩
  exact copy_rows hS hR hz fun H' L qs sm hL hQ hL0 hq0 hLq _ => q H' L qs sm hL hQ hL0 hq0 hLq

def wayW : Bool → Str
  | true => "order"
  | false => "knot"
def Way : Bool → Nat → List (List Int) → List (List Int) → List Int → List Nat → Prop
  | true, n, rs, xss, f, o => Orde n rs xss f o ∧ o.length = n
  | false, n, rs, xss, f, o => Knot n rs xss f o
def spWay (K : PySem.W.Frag) : Sp := fun vs H Q _ => ∃ (a b c : Addr) (st : List Int) (cs rs : List Addr) (css xss : List (List Int)), vs = [.ref a, .ref b, .ref c] ∧ SqL K H a (intL st) ∧ SqL K H b (refL cs) ∧ Rows H cs css ∧ SqL K H c (refL rs) ∧ Rows H rs xss ∧ css.length = xss.length ∧
  (∀ x ∈ css, x.length = st.length) ∧ (∀ x ∈ xss, x.length = st.length) ∧ (∀ x ∈ xss, ∀ y ∈ x, 0 ≤ y) ∧ st.length ≤ 1000 ∧ xss.length ≤ 1000 ∧
  ∀ H' T L o (b : Bool), Same H H' → H' T = some (.tup [.str (wayW b), .ref L]) → H' L = some (.lst (natL o)) → Way b xss.length (restsM css xss) xss (freeM st xss) o → Q (.ref T) H'
def waitsAt (σ : St) (H : Hp) : Nat :=
  match (σ[6]? : Option (Option V)) with
  | some (some (V.ref p)) => match H p with
    | some (.lst xs) => xs.length
    | _ => 0
  | _ => 0
theorem waitsAt_eq {σ : St} {H : Hp} {p : Addr} {xs : List V} (h : σ[6]? = some (some (V.ref p))) (h2 : H p = some (.lst xs)) : waitsAt σ H = xs.length := by
  unfold waitsAt
  rw [h]
  dsimp only
  rw [h2]
theorem waitsAt_lt {σ σ' : St} {H H' : Hp} {p q : Addr} {xs ys : List V} (h1 : σ[6]? = some (some (V.ref p))) (h2 : σ'[6]? = some (some (V.ref q))) (h3 : H p = some (.lst xs)) (h4 : H' q = some (.lst ys)) (h : xs.length < ys.length) : waitsAt σ H < waitsAt σ' H' := by
  rw [waitsAt_eq h1 h3, waitsAt_eq h2 h4]
  exact h
theorem big2 {a b : Nat} (h1 : a ≤ 1000) (h2 : b ≤ 1000) : a + b ≤ sizeLine := Nat.le_trans (Nat.add_le_add h1 h2) (by decide)
theorem ok_way_out (bi : BI mg) {ca : CA} (ck : CK K mg ca)
    (c_free_of : Callee P w K mg base "free_of" 3 ["stock", "loans"] (spFree K))
    (c_less : Callee P w K mg base "less" 2 ["amounts", "other"] (spLess K))
    (c_fits : Callee P w K mg base "fits" 2 ["amounts", "other"] (spFits K))
    (c_more : Callee P w K mg base "more" 2 ["amounts", "other"] (spMore K))
    {f : Addr} {fd : FuncData} (F : Fun K "way_out" "way_out" s_way_out f fd) : FnOk P w K mg base CX0 4 f fd ["stock", "claims", "loans"] (spWay K) := by
  refine F.ok sc_way_out (fun vs H Q E h => ?_) (fun cdv A outer s H vs Q E hr h => ?_)
  · obtain ⟨a, b, c, st, cs, rs, css, xss, rfl, _⟩ := h
    rfl
  obtain ⟨a, b, c, st, cs, rs, css, xss, rfl, ha, hb, hC, hc, hR, hl, hlc, hlx, hnn, hz, hz2, q⟩ := h
  have q1 : ∀ H' T L o, Same H H' → H' T = some (.tup [.str "order", .ref L]) → H' L = some (.lst (natL o)) → Orde xss.length (restsM css xss) xss (freeM st xss) o → o.length = xss.length → Q (.ref T) H' := fun H' T L o s hT hL Od ho => q H' T L o true s hT hL ⟨Od, ho⟩
  have q2 : ∀ H' T L k, Same H H' → H' T = some (.tup [.str "knot", .ref L]) → H' L = some (.lst (natL k)) → Knot xss.length (restsM css xss) xss (freeM st xss) k → Q (.ref T) H' := fun H' T L k s hT hL Kn => q H' T L k false s hT hL Kn
  have Y := yd_of hl hlc hlx hnn
  have hxl : ∀ w, w < xss.length → (xss.getD w []).length = st.length := fun w h => Y.xlen h
  have hfl : (freeM st xss).length = st.length := subAll_len hlx rfl
  refine ⟨_, (pss_cons (ps_set (i := 3) sc_way_out.nd rfl (Or.inr rfl) (pe_calln c_free_of hr (by decide) rfl (pa_cons (pv 0) (pa_cons (pv 2) pa_nil)))) (pss_cons (ps_set (i := 4) sc_way_out.nd rfl (Or.inr rfl) (pe_comp (blk_mk (own := ["claim", "loan"]) (caps := []) (js := []) rfl (by decide +kernel) (by decide +kernel) rfl trivial) rfl (pi_zipK (K := K) rfl rfl bi.zip (pa_cons (pv 1) (pa_cons (pv 2) pa_nil))) (fun _ _ _ _ => (pg_tupK (K := K) (n := 2) rfl rfl (pgs_cons (pg_name (i := 0) (show (["claim", "loan"] : List Str).Nodup by decide +kernel) rfl (Or.inl rfl)) (pgs_cons (pg_name (i := 1) (show (["claim", "loan"] : List Str).Nodup by decide +kernel) rfl (Or.inl rfl)) pgs_nil)))) (fun _ _ _ _ => pif_nil) (fun _ _ _ _ => (pe_calln c_less hr (by decide) rfl (pa_cons (pv 0) (pa_cons (pv 1) pa_nil)))))) (pss_cons (ps_set (i := 5) sc_way_out.nd rfl (Or.inl rfl) (pe_lst pa_nil)) (pss_cons (ps_set (i := 6) sc_way_out.nd rfl (Or.inl rfl) (pe_listRange rfl rfl bi.list rfl bi.range (pa_cons (pe_callB (call_len_seqK (K := K) rfl) rfl bi.len PySem.boot_len (pa_cons (pv 4) pa_nil)) pa_nil))) (pss_cons (ps_while PassesOwn.never (pt_truthK (K := K) rfl (pv 6) (fun _ => rfl)) (pss_cons (ps_set (i := 7) sc_way_out.nd rfl (Or.inr rfl) (pe_comp (blk_mk (own := ["worker"]) (caps := ["free", "rests"]) (js := [3, 4]) rfl (by decide +kernel) (by decide +kernel) rfl ⟨⟨rfl, rfl, .inr (.inl rfl)⟩, ⟨⟨rfl, rfl, .inr (.inl rfl)⟩, trivial⟩⟩) rfl (pi_listK (K := K) rfl (pv 6)) (fun _ _ _ _ => (pg_name (i := 0) (show (["worker", "free", "rests"] : List Str).Nodup by decide +kernel) rfl (Or.inl rfl))) (fun _ _ _ _ => (pif_one (pt_val (pe_calln c_fits hr (by decide) rfl (pa_cons (pe_ix (ix_listK (K := K) rfl) (pv 2) (pv 0) (fun _ _ => rfl)) (pa_cons (pv 1) pa_nil)))))) (fun _ _ _ _ => (pv 0)))) (pss_cons (ps_if (pt_not (pt_truthK (K := K) rfl (pv 7) (fun _ => rfl))) (pss_one (ps_ret (pe_tup (pa_cons pe_str (pa_cons (pv 6) pa_nil))))) pss_nil) (pss_cons (ps_for PassesOwn.never rfl (pi_listK (K := K) rfl (pv 7)) (pg_name (i := 8) sc_way_out.nd rfl (Or.inl rfl)) (pss_one (ps_set (i := 3) sc_way_out.nd rfl (Or.inr rfl) (pe_calln c_more hr (by decide) rfl (pa_cons (pv 3) (pa_cons (pe_ix (ix_listK (K := K) rfl) (pv 2) (pv 8) (fun _ _ => rfl)) pa_nil)))))) (pss_cons (ps_expr (pe_extendK (K := K) rfl (pv 5) (pa_cons (pv 7) pa_nil))) (pss_one (ps_setC (i := 6) sc_way_out.nd rfl (Or.inl rfl) (blk_mk (own := ["worker"]) (caps := ["ready"]) (js := [7]) rfl (by decide +kernel) (by decide +kernel) rfl ⟨⟨rfl, rfl, .inr (.inl rfl)⟩, trivial⟩) rfl (pi_listK (K := K) rfl (pv 6)) (fun _ _ _ _ => (pg_name (i := 0) (show (["worker", "ready"] : List Str).Nodup by decide +kernel) rfl (Or.inl rfl))) (fun _ _ _ _ => (pif_one (pt_cmpR (op_notIn_seqK (K := K) rfl) (pv 0) (pv 1) (by with_unfolding_all rfl)))) (fun _ _ _ _ => (pv 0))))))))) (pss_one (ps_ret (pe_tup (pa_cons pe_str (pa_cons (pv 5) pa_nil)))))))))), ?_⟩
  refine ⟨_, rfl, _, rfl, a, c, st, rs, xss, rfl, ha, hc, hR, hlx, hz, fun H1 f s1 hf0 hf => ?_⟩
  refine ⟨_, rfl, _, rfl, b, c, rfl, ⟨_, s1.seq hb⟩, ⟨_, s1.seq hc⟩, ?_⟩
  refine comp_zip_refs (fun i r D H' => r ≠ D ∧ H' r = some (.lst (intL ((restsM css xss).getD i [])))) (s1.seq hb) (s1.seq hc) (by rw [refs_len, refs_len, hC.len, hR.len]; exact hl) (by rw [refs_len, hC.len]; exact small (by omega))
    (fun i r D H H' h e => ⟨h.1, e _ _ h.2⟩) (fun i r D H o h => ⟨h.1, by rw [upd_ne h.1]; exact h.2⟩) ?_ ?_
  · intro i x y D o H' Kx hx hy sm hD hDo k
    rw [List.getElem?_map] at hx hy
    cases e1 : cs[i]? with
    | none => rw [e1] at hx; cases hx
    | some r1 =>
      cases e2 : rs[i]? with
      | none => rw [e2] at hy; cases hy
      | some r2 =>
        rw [e1] at hx; rw [e2] at hy
        cases hx; cases hy
        obtain ⟨c1, f1, g1⟩ := hC.getr e1
        obtain ⟨x1, f2, g2⟩ := hR.getr e2
        have hi : i < xss.length := (List.getElem?_eq_some_iff.mp f2).1
        have l1 := hlc c1 (List.mem_of_getElem? f1)
        have l2 := hlx x1 (List.mem_of_getElem? f2)
        refine ⟨_, rfl, _, rfl, r1, r2, c1, x1, rfl, SqL.of (sm _ _ (s1 _ _ g1)), SqL.of (sm _ _ (s1 _ _ g2)), by omega, by omega, fun H2 L sL hL0 hL => k _ _ sL ⟨(fun e => by rw [e, hDo] at hL0; cases hL0), ?_⟩⟩
        rw [rests_at hl hi, List.getD_eq_getElem?_getD, f1, List.getD_eq_getElem?_getD, f2]
        exact hL
  intro R H2 qs hR0 s2 hRs hql hqs
  have hRq : Rows H2 qs (restsM css xss) := by
    refine Rows.of_get (by rw [hql, rests_len hl, refs_len, hC.len, hl]) fun i r e => ?_
    have hi : i < (restsM css xss).length := by
      have := (List.getElem?_eq_some_iff.mp e).1
      rw [hql, refs_len, hC.len, hl] at this
      rw [rests_len hl]; exact this
    refine ⟨(restsM css xss)[i], List.getElem?_eq_getElem hi, ?_⟩
    have := (hqs i r e).2
    rw [List.getD_eq_getElem?_getD, List.getElem?_eq_getElem hi] at this
    exact this
  refine ⟨(by show 0 ≤ sizeLine; decide), fun O hO => ?_⟩
  refine ⟨_, rfl, R, _, rfl, .inl (SqL.of (same_new hO _ _ _ hRs)), xss.length, by rw [refs_len, hql, refs_len, hC.len, hl], hz2, fun Wt hW => ?_⟩
  have hWO : Wt ≠ O := fun e => by rw [e, upd_same] at hW; cases hW
  have hfO : f ≠ O := fun e => by rw [e] at hf; rw [s2 _ _ hf] at hO; cases hO
  refine while_by (fun σ' H' => ∃ f' Wt' p7 p8 o, σ' = [some (.ref a), some (.ref b), some (.ref c), some (.ref f'), some (.ref R), some (.ref O), some (.ref Wt'), p7, p8] ∧ Same H2 H' ∧ f' ≠ O ∧ Wt' ≠ O ∧
      H' O = some (.lst (natL o)) ∧ H' f' = some (.lst (intL (growM xss (freeM st xss) o))) ∧ H' Wt' = some (.lst (natL ((List.range xss.length).filter fun u => decide (u ∉ o)))) ∧ Orde xss.length (restsM css xss) xss (freeM st xss) o)
    waitsAt ⟨f, Wt, none, none, [], rfl, (same_new hO _).trans (same_new hW _), hfO, hWO, ?_, ?_, ?_, ⟨by simp, by simp, trivial⟩⟩ ?_ ?_
  · rw [upd_ne hWO.symm, upd_same]; rfl
  · exact ((same_new hO _).trans (same_new hW _)) _ _ (s2 _ _ hf)
  · rw [upd_same]
    have : ((List.range xss.length).filter fun u => decide (u ∉ ([] : List Nat))) = List.range xss.length := List.filter_eq_self.mpr (by simp)
    rw [this]
  · rintro σ' H' ⟨f', Wt', p7, p8, o, rfl, sm, hfO', hWO', h_O, h_f, h_W, Od⟩
    have sH : Same H H' := s1.trans (s2.trans sm)
    have hol : o.length ≤ xss.length := len_le Od.nd Od.lt
    refine ⟨_, rfl, _, .inl ⟨_, SqL.of h_W, rfl⟩, ?_⟩
    generalize hwt : ((List.range xss.length).filter fun u => decide (u ∉ o)) = wt at h_W
    have hwtl : wt.length ≤ 1000 := by
      rw [← hwt]; exact Nat.le_trans (List.length_filter_le _ _) (by rw [List.length_range]; omega)
    have hwn : ∀ w ∈ wt, w < xss.length ∧ w ∉ o := fun w hw => by
      rw [← hwt] at hw
      exact ⟨List.mem_range.mp (List.mem_filter.mp hw).1, of_decide_eq_true (List.mem_filter.mp hw).2⟩
    have hgl : (growM xss (freeM st xss) o).length = st.length := grow_len hxl hfl Od.lt
    cases wt with
    | nil =>
      refine iteF ?_
      refine ⟨_, rfl, (by show 2 ≤ sizeLine; decide), fun T hT => ?_⟩
      refine q1 _ T O o (sH.trans (same_new hT _)) upd_same (same_new hT _ _ _ h_O) Od ?_
      refine Classical.byContradiction fun z => ?_
      obtain ⟨w, hw, hwo⟩ := one_out (n := xss.length) (o := o) (by omega)
      have : w ∈ ([] : List Nat) := by rw [← hwt]; exact List.mem_filter.mpr ⟨List.mem_range.mpr hw, decide_eq_true hwo⟩
      cases this
    | cons w0 wt =>
      refine iteT ?_
      generalize hww : w0 :: wt = ww at *
      refine ⟨_, rfl, Wt', rfl, ⟨_, SqL.of h_W⟩, ?_⟩
      refine comp_filter_nats (p := fun w => fitsM ((restsM css xss).getD w []) (growM xss (freeM st xss) o)) (SqL.of h_W) (small hwtl) ?_ ?_
      · intro w H3 Kf hw s3 k
        have hw' := (hwn w hw).1
        obtain ⟨r, er, hr'⟩ := hRq.get (i := w) (x := (restsM css xss).getD w []) (by rw [List.getD_eq_getElem?_getD, List.getElem?_eq_getElem (by rw [rests_len hl]; exact hw')]; rfl)
        refine ⟨_, rfl, _, rfl, R, _, _, _, rfl, rfl, SqL.of (s3 _ _ (sm _ _ hRs)), atI_refs er, _, rfl, r, f', _, _, rfl, SqL.of (s3 _ _ (sm _ _ hr')), SqL.of (s3 _ _ h_f), by rw [Y.rlen hw', hgl], fun H4 s4 => ⟨_, rfl, k _ s4⟩⟩
      intro Rd H3 hRd0 s3 hRd
      generalize hrd : (ww.filter fun w => fitsM ((restsM css xss).getD w []) (growM xss (freeM st xss) o)) = rd at hRd
      have hrm : ∀ w ∈ rd, w ∈ ww ∧ fitsM ((restsM css xss).getD w []) (growM xss (freeM st xss) o) = true := fun w hw => by
        rw [← hrd] at hw; exact List.mem_filter.mp hw
      have hrl : rd.length ≤ xss.length := by
        rw [← hrd, ← hwt]
        exact Nat.le_trans (List.length_filter_le _ _) (Nat.le_trans (List.length_filter_le _ _) (by rw [List.length_range]; omega))
      have hRdO : Rd ≠ O := fun e => by rw [e, h_O] at hRd0; cases hRd0
      refine ⟨_, rfl, _, .inl ⟨_, SqL.of hRd, rfl⟩, ?_⟩
      cases hrd' : rd with
      | nil =>
        refine iteT ?_
        refine ⟨_, rfl, (by show 2 ≤ sizeLine; decide), fun T hT => ?_⟩
        refine q2 _ T Wt' ww (sH.trans (s3.trans (same_new hT _))) upd_same (same_new hT _ _ _ (s3 _ _ h_W)) ?_
        rw [← hwt]
        refine stuck_knot Od (by rw [hwt, ← hww]; exact List.cons_ne_nil _ _) fun w hw hwo => ?_
        have hw2 : w ∈ ww := by rw [← hwt]; exact List.mem_filter.mpr ⟨List.mem_range.mpr hw, decide_eq_true hwo⟩
        refine Bool.eq_false_iff.mpr fun z => ?_
        have : w ∈ rd := by rw [← hrd]; exact List.mem_filter.mpr ⟨hw2, z⟩
        rw [hrd'] at this
        cases this
      | cons v0 rd1 =>
        refine iteF ?_
        have hv0 : v0 ∈ rd := by rw [hrd']; exact List.mem_cons_self
        refine ⟨_, rfl, Rd, rfl, ⟨_, SqL.of hRd⟩, ?_⟩
        refine for_list (xs := natL rd) (fun i σ' H' => ∃ f2 p, σ' = [some (.ref a), some (.ref b), some (.ref c), some (.ref f2), some (.ref R), some (.ref O), some (.ref Wt'), some (.ref Rd), p] ∧ Same H3 H' ∧ f2 ≠ O ∧ H' f2 = some (.lst (intL (growM xss (growM xss (freeM st xss) o) (rd.take i)))))
          ⟨f', p8, rfl, Same.refl _, hfO', s3 _ _ h_f⟩ (fun i σ' H' _ ⟨f2, p, _, s4, _⟩ => s4.seq (SqL.of hRd)) ?_ ?_
        · rintro i x σ' H4 hx ⟨f2, p, rfl, s4, hf2, h_f2⟩
          obtain ⟨w, ew, rfl⟩ := nats_get hx
          have hwr : w ∈ rd := List.mem_of_getElem? ew
          have hw' := (hwn w (hrm w hwr).1).1
          obtain ⟨r, er, hr'⟩ := hR.get (i := w) (x := xss.getD w []) (by rw [List.getD_eq_getElem?_getD, List.getElem?_eq_getElem hw']; rfl)
          have sH4 := sH.trans (s3.trans s4)
          have hl4 : (growM xss (growM xss (freeM st xss) o) (rd.take i)).length = st.length := grow_len hxl hgl fun v hv => (hwn v (hrm v (List.mem_of_mem_take hv)).1).1
          refine ⟨_, rfl, _, rfl, _, rfl, c, _, _, _, rfl, rfl, sH4.seq hc, atI_refs er, f2, r, _, _, rfl, SqL.of h_f2, SqL.of (sH4 _ _ hr'), by rw [hl4, hxl w hw'], by omega, fun H5 f3 s5 hf30 hf3 => ?_⟩
          refine ⟨f3, _, rfl, s4.trans s5, fun e => ?_, ?_⟩
          · rw [e, s4 _ _ (s3 _ _ h_O)] at hf30; cases hf30
          · rw [List.take_add_one, ew]
            show H5 f3 = some (.lst (intL (growM xss (growM xss (freeM st xss) o) (rd.take i ++ [w]))))
            rw [grow_append]
            exact hf3
        · rintro σ' H4 ⟨f2, p, rfl, s4, hf2, h_f2⟩
          rw [nats_len, List.take_of_length_le (Nat.le_refl _)] at h_f2
          have h_O4 : H4 O = some (.lst (natL o)) := s4 _ _ (s3 _ _ h_O)
          refine ⟨_, rfl, .inl ⟨rfl, _, SqL.of h_O4⟩, _, rfl, O, Rd, _, _, rfl, rfl, h_O4, s4 _ _ hRd, big2 (by rw [nats_len]; omega) (by rw [nats_len]; omega), ?_⟩
          have hO2 : H2 O = none := hO
          have h_W5 : upd H4 O (.lst (natL o ++ natL rd)) Wt' = some (.lst (natL ww)) := by rw [upd_ne hWO']; exact s4 _ _ (s3 _ _ h_W)
          have h_R5 : upd H4 O (.lst (natL o ++ natL rd)) Rd = some (.lst (natL rd)) := by rw [upd_ne hRdO]; exact s4 _ _ hRd
          have s5 : Same H2 (upd H4 O (.lst (natL o ++ natL rd))) := same_upd (sm.trans (s3.trans s4)) hO2
          refine ⟨_, rfl, Wt', rfl, ⟨_, SqL.of h_W5⟩, ?_⟩
          refine comp_filter_nats (p := fun w => !decide (w ∈ rd)) (SqL.of h_W5) (small hwtl) ?_ ?_
          · intro w H6 Kf hw s6 k
            refine ⟨_, rfl, _, rfl, Rd, _, rfl, .inl (SqL.of (s6 _ _ h_R5)), rfl, nats_flat _, _, rfl, ?_⟩
            try dsimp only
            rw [nats_in]
            exact k _ (Same.refl _)
          intro W2 H6 hW0 s6 hW6
          have hne : w0 ∈ ww := by rw [← hww]; exact List.mem_cons_self
          refine ⟨⟨f2, W2, _, _, o ++ rd, rfl, s5.trans s6, hf2, fun e => ?_, ?_, ?_, ?_, ?_, ?_, ?_⟩, ?_⟩
          · rw [e, upd_same] at hW0; cases hW0
          · rw [s6 _ _ upd_same, nats_cat]
          · rw [grow_append]
            exact s6 _ _ (by rw [upd_ne hf2]; exact h_f2)
          · rw [hW6, ← hrd, ← hwt, wait_next]
          · rw [List.nodup_append]
            refine ⟨Od.nd, ?_, fun x hx y hy e => (hwn y (hrm y hy).1).2 (e ▸ hx)⟩
            rw [← hrd, ← hwt]
            exact List.Pairwise.filter _ (List.Pairwise.filter _ List.nodup_range)
          · intro w hw
            rcases List.mem_append.mp hw with z | z
            · exact Od.lt w z
            · exact (hwn w (hrm w z).1).1
          · rw [walk_append]
            exact ⟨Od.wk, ready_walk Y hgl (fun w hw => (hwn w (hrm w hw).1).1) fun w hw => (hrm w hw).2⟩
          · refine waitsAt_lt (p := W2) (q := Wt') rfl rfl hW6 h_W ?_
            rw [nats_len, nats_len]
            exact wait_less hv0 (hrm v0 hv0).1
  · rintro σ H Q Q' hq ⟨v, hv, k, t, h⟩
    exact ⟨v, hv, k, t, hq _ _ h⟩

def spCheck (K : PySem.W.Frag) (ca : CA) : Sp := fun vs H Q E => ∃ (a b : Addr) (xs : List V) (wk : Int) (am : List Int), vs = [.ref a, .int wk, .ref b] ∧ SqL K H a xs ∧ SqL K H b (intL am) ∧ am.length ≤ 1000 ∧
  ∀ H', Same H H' → if wk < 0 ∨ (xs.length : Int) ≤ wk then E (.ref (ca.at .noWorker)) none H' else if am.any (fun x => decide (x < 0)) = true then E (.ref (ca.at .noAmount)) none H' else Q .non H'
theorem ok_check_deed (bi : BI mg) {ca : CA} (ck : CK K mg ca)
    {f : Addr} {fd : FuncData} (F : Fun K "check_deed" "check_deed" s_check_deed f fd) : FnOk P w K mg base (CX1 P w) 2 f fd ["loans", "worker", "amounts"] (spCheck K ca) := by
  refine F.okX sc_check_deed (fun vs H Q E h => ?_) (fun cdv A outer s H vs Q E hr h => ?_)
  · obtain ⟨a, b, xs, wk, am, rfl, _⟩ := h
    rfl
  obtain ⟨a, b, xs, wk, am, rfl, ha, hb, hz, q⟩ := h
  refine ⟨_, (pss_cons (ps_if (PW.pt (pw_or (pt_cmpR op_lt (pv 1) pe_int (nomark _)) (pw_or1 (pt_cmpR op_ge (pv 1) (pe_callB (call_len_seqK (K := K) rfl) rfl bi.len PySem.boot_len (pa_cons (pv 0) pa_nil)) (nomark _))))) (pss_one (ps_raise wants_def rfl (C := ca.NoWorker) (ck.exc .noWorker).exc rfl ck.NoWorker (pa_cons pe_str pa_nil))) pss_nil) (pss_one (ps_if (pt_val (pe_callB (call_anyK (K := K) rfl rfl) rfl bi.any BootN.any (pa_cons (pe_comp (blk_mk (own := ["number"]) (caps := []) (js := []) rfl (by decide +kernel) (by decide +kernel) rfl trivial) rfl (pi_listK (K := K) rfl (pv 2)) (fun _ _ _ _ => (pg_name (i := 0) (show (["number"] : List Str).Nodup by decide +kernel) rfl (Or.inl rfl))) (fun _ _ _ _ => pif_nil) (fun _ _ _ _ => (pe_cmpR op_lt (pv 0) pe_int (nomark _)))) pa_nil))) (pss_one (ps_raise wants_def rfl (C := ca.NoAmount) (ck.exc .noAmount).exc rfl ck.NoAmount (pa_cons pe_str pa_nil))) pss_nil))), ?_⟩
  by_cases c1 : wk < 0
  · have q := q H (Same.refl _)
    rw [if_pos (.inl c1)] at q
    refine ⟨_, rfl, _, _, rfl, rfl, _, rfl, ?_⟩
    rw [decide_eq_true c1]
    exact iteT ⟨(by show 1 ≤ sizeLine; decide), q⟩
  refine ⟨_, rfl, _, _, rfl, rfl, _, rfl, ?_⟩
  rw [decide_eq_false c1]
  refine iteF ⟨_, rfl, _, rfl, a, _, rfl, .inl ha, _, _, rfl, rfl, _, rfl, ite2 (fun c => ?_) (fun c => ?_)⟩
  · have q := q H (Same.refl _)
    rw [if_pos (.inr (of_decide_eq_true c))] at q
    exact ⟨(by show 1 ≤ sizeLine; decide), q⟩
  have c2 : ¬ (xs.length : Int) ≤ wk := of_decide_eq_false (Bool.eq_false_iff.mpr c)
  refine ⟨_, rfl, b, rfl, ⟨_, hb⟩, ?_⟩
  refine comp_list_vals (ys := (am.map fun x => decide (x < 0)).map V.bl) hb (by simp) (by rw [ints_len]; exact small hz) ?_ ?_
  · intro i x y H' Kx hx hy sm k
    obtain ⟨hi, rfl⟩ := ints_get hx
    refine ⟨_, rfl, _, _, rfl, rfl, ?_⟩
    have e : y = .bl (decide (am.getD i 0 < 0)) := by
      rw [List.map_map, List.getElem?_map, List.getElem?_eq_getElem hi] at hy
      rw [List.getD_eq_getElem?_getD, List.getElem?_eq_getElem hi]
      cases hy
      rfl
    dsimp only
    rw [← e]
    exact k _ (Same.refl _)
  intro D H1 hD s1 hDs
  have q := q H1 s1
  rw [if_neg (by omega)] at q
  refine ⟨D, am.map fun x => decide (x < 0), rfl, SqL.of hDs, _, rfl, ?_⟩
  have e : (am.map fun x => decide (x < 0)).any id = am.any fun x => decide (x < 0) := by rw [List.any_map]; rfl
  rw [e]
  by_cases c3 : am.any (fun x => decide (x < 0)) = true
  · rw [if_pos c3] at q
    rw [c3]
    exact iteT ⟨(by show 1 ≤ sizeLine; decide), q⟩
  · rw [if_neg c3] at q
    rw [Bool.eq_false_iff.mpr c3]
    exact iteF q

def spWith (K : PySem.W.Frag) : Sp := fun vs H Q _ => ∃ (a b : Addr) (rs : List Addr) (xss : List (List Int)) (k : Nat) (x : List Int), vs = [.ref a, .int (k : Int), .ref b] ∧ SqL K H a (refL rs) ∧ Rows H rs xss ∧ k < xss.length ∧ xss.length ≤ 1000 ∧ H b = some (.lst (intL x)) ∧
  ∀ H' L qs, Same H H' → H L = none → H' L = some (.lst (refL qs)) → Rows H' qs (xss.set k x) → (∀ r ∈ qs, r = b ∨ H r = none) → Q (.ref L) H'
theorem ok_with_loan (bi : BI mg) {ca : CA} (ck : CK K mg ca)
    (c_copies : Callee P w K mg base "copies" 2 ["loans"] (spCopies K))
    {f : Addr} {fd : FuncData} (F : Fun K "with_loan" "with_loan" s_with_loan f fd) : FnOk P w K mg base CX0 3 f fd ["loans", "worker", "loan"] (spWith K) := by
  refine F.ok sc_with_loan (fun vs H Q E h => ?_) (fun cdv A outer s H vs Q E hr h => ?_)
  · obtain ⟨a, b, rs, xss, k, x, rfl, _⟩ := h
    rfl
  obtain ⟨a, b, rs, xss, k, x, rfl, ha, hR, hk, hz, hb, q⟩ := h
  refine ⟨_, (pss_cons (ps_set (i := 3) sc_with_loan.nd rfl (Or.inl rfl) (pe_calln c_copies hr (by decide) rfl (pa_cons (pv 0) pa_nil))) (pss_cons (ps_asg (pv 2) (pg_sub (pv 3) (pv 1) set_list)) (pss_one (ps_ret (pv 3))))), ?_⟩
  refine ⟨_, rfl, a, rs, xss, rfl, ha, hR, hz, fun H1 L qs s1 hL hQ hL0 hq0 hLq => ?_⟩
  refine ⟨_, rfl, _, rfl, _, rfl, L, _, _, k, rfl, rfl, hL, ixN_nat (by rw [refs_len, hQ.len]; exact hk), ?_⟩
  refine ⟨_, rfl, ?_⟩
  have hbL : b ≠ L := fun e => by rw [e, hL0] at hb; cases hb
  have key : ∀ r ∈ qs.set k b, r = b ∨ H r = none := fun r hr => by
    rcases List.mem_or_eq_of_mem_set hr with y | y
    · exact .inr (hq0 r y)
    · exact .inl y
  refine q _ L (qs.set k b) (same_upd s1 hL0) hL0 (by rw [upd_same, refs_set]) ?_ key
  refine Rows.updt (Rows.setr hQ (s1 _ _ hb)) ?_
  intro z
  rcases List.mem_or_eq_of_mem_set z with y | y
  · exact hLq y
  · exact hbL y.symm

theorem ok_returned (bi : BI mg) {ca : CA} (ck : CK K mg ca)
    (c_less : Callee P w K mg base "less" 2 ["amounts", "other"] (spLess K))
    (c_fits : Callee P w K mg base "fits" 2 ["amounts", "other"] (spFits K))
    (c_check_deed : CalleeX P w K mg base "check_deed" 2 ["loans", "worker", "amounts"] (spCheck K ca))
    (c_with_loan : Callee P w K mg base "with_loan" 3 ["loans", "worker", "loan"] (spWith K))
    {f : Addr} {fd : FuncData} (F : Fun K "returned" "returned" s_returned f fd) : FnOk P w K mg base (CX1 P w) 4 f fd ["loans", "worker", "amounts"] (spReturned K ca) := by
  refine F.okX sc_returned (fun vs H Q E h => ?_) (fun cdv A outer s H vs Q E hr h => ?_)
  · obtain ⟨a, b, rs, xss, wk, am, rfl, _⟩ := h
    rfl
  obtain ⟨a, b, rs, xss, wk, am, rfl, ha, hR, hb, hln, hz, hz2, q⟩ := h
  refine ⟨_, (pss_cons (ps_expr (pe_callX c_check_deed hr (by decide) rfl (Passes.s passes_def) (pa_cons (pv 0) (pa_cons (pv 1) (pa_cons (pv 2) pa_nil))))) (pss_cons (ps_if (pt_not (pt_val (pe_calln c_fits hr (by decide) rfl (pa_cons (pv 2) (pa_cons (pe_ix (ix_listK (K := K) rfl) (pv 0) (pv 1) (fun _ _ => rfl)) pa_nil))))) (pss_one (ps_raise wants_def rfl (C := ca.NotLent) (ck.exc .notLent).exc rfl ck.NotLent (pa_cons pe_str pa_nil))) pss_nil) (pss_one (ps_ret (pe_calln c_with_loan hr (by decide) rfl (pa_cons (pv 0) (pa_cons (pv 1) (pa_cons (pe_calln c_less hr (by decide) rfl (pa_cons (pe_ix (ix_listK (K := K) rfl) (pv 0) (pv 1) (fun _ _ => rfl)) (pa_cons (pv 2) pa_nil))) pa_nil)))))))), ?_⟩
  refine ⟨_, rfl, _, rfl, _, rfl, a, b, _, wk, am, rfl, ha, hb, hz2, fun H1 s1 => ?_⟩
  rw [refs_len, hR.len]
  unfold retM at q
  by_cases c1 : wk < 0 ∨ (xss.length : Int) ≤ wk
  · rw [if_pos c1] at q ⊢
    exact q H1 s1
  rw [if_neg c1] at q ⊢
  by_cases c2 : am.any (fun x => decide (x < 0)) = true
  · rw [if_pos c2] at q ⊢
    exact q H1 s1
  rw [if_neg c2] at q ⊢
  obtain ⟨k, rfl⟩ : ∃ k : Nat, wk = (k : Int) := ⟨wk.toNat, by omega⟩
  have hk : k < xss.length := by omega
  rw [Int.toNat_natCast] at q
  obtain ⟨r, er, hr'⟩ := hR.get (List.getElem?_eq_getElem hk)
  have hxk : xss.getD k [] = xss[k] := by rw [List.getD_eq_getElem?_getD, List.getElem?_eq_getElem hk]; rfl
  have hlk : xss[k].length = am.length := hln _ (List.getElem_mem hk)
  rw [hxk] at q
  refine ⟨_, rfl, _, rfl, _, rfl, a, _, _, _, rfl, rfl, s1.seq ha, atI_refs er, b, r, am, xss[k], rfl, s1.seq hb, SqL.of (s1 _ _ hr'), hlk.symm, fun H2 s2 => ?_⟩
  have s12 := s1.trans s2
  by_cases c3 : fitsM am xss[k] = true
  · rw [if_pos c3] at q
    rw [c3]
    refine ⟨_, rfl, iteF ?_⟩
    refine ⟨_, rfl, _, rfl, _, rfl, _, rfl, a, _, _, _, rfl, rfl, s12.seq ha, atI_refs er, _, rfl, r, b, xss[k], am, rfl, SqL.of (s12 _ _ hr'), s12.seq hb, hlk, by omega, fun H3 M s3 hM0 hM => ?_⟩
    have s13 := s12.trans s3
    refine ⟨a, M, rs, xss, k, _, rfl, s13.seq ha, hR.same s13, hk, hz, hM, fun H4 L qs s4 hL0 hL hQ hq => ?_⟩
    refine q H4 L qs (s13.trans s4) hL hQ (s13.free hL0) fun r2 hr2 => ?_
    rcases hq r2 hr2 with z | z
    · rw [z]; exact s12.free hM0
    · exact s13.free z
  · rw [if_neg c3] at q
    rw [Bool.eq_false_iff.mpr c3]
    exact ⟨_, rfl, iteT ⟨(by show 1 ≤ sizeLine; decide), q H2 s12⟩⟩

def spLent (K : PySem.W.Frag) (ca : CA) : Sp := fun vs H Q E => ∃ (a b c d : Addr) (st : List Int) (cs rs : List Addr) (css xss : List (List Int)) (wk : Int) (am : List Int), vs = [.ref a, .ref b, .ref c, .int wk, .ref d] ∧ SqL K H a (intL st) ∧ SqL K H b (refL cs) ∧ Rows H cs css ∧ SqL K H c (refL rs) ∧ Rows H rs xss ∧ SqL K H d (intL am) ∧
  Gd st css xss ∧ am.length = st.length ∧ st.length ≤ 1000 ∧ xss.length ≤ 1000 ∧ afterRet H Q E ca (lentM st css xss wk am)
theorem ok_lent (bi : BI mg) {ca : CA} (ck : CK K mg ca)
    (c_check_deed : CalleeX P w K mg base "check_deed" 2 ["loans", "worker", "amounts"] (spCheck K ca))
    (c_more : Callee P w K mg base "more" 2 ["amounts", "other"] (spMore K))
    (c_fits : Callee P w K mg base "fits" 2 ["amounts", "other"] (spFits K))
    (c_free_of : Callee P w K mg base "free_of" 3 ["stock", "loans"] (spFree K))
    (c_with_loan : Callee P w K mg base "with_loan" 3 ["loans", "worker", "loan"] (spWith K))
    (c_way_out : Callee P w K mg base "way_out" 4 ["stock", "claims", "loans"] (spWay K))
    {f : Addr} {fd : FuncData} (F : Fun K "lent" "lent" s_lent f fd) : FnOk P w K mg base (CX1 P w) 5 f fd ["stock", "claims", "loans", "worker", "amounts"] (spLent K ca) := by
  refine F.okX sc_lent (fun vs H Q E h => ?_) (fun cdv A outer s H vs Q E hr h => ?_)
  · obtain ⟨a, b, c, d, st, cs, rs, css, xss, wk, am, rfl, _⟩ := h
    rfl
  obtain ⟨a, b, c, d, st, cs, rs, css, xss, wk, am, rfl, ha, hb, hC, hc, hR, hd, G, hal, hz, hz2, q⟩ := h
  refine ⟨_, (pss_cons (ps_expr (pe_callX c_check_deed hr (by decide) rfl (Passes.s passes_def) (pa_cons (pv 2) (pa_cons (pv 3) (pa_cons (pv 4) pa_nil))))) (pss_cons (ps_set (i := 5) sc_lent.nd rfl (Or.inl rfl) (pe_calln c_more hr (by decide) rfl (pa_cons (pe_ix (ix_listK (K := K) rfl) (pv 2) (pv 3) (fun _ _ => rfl)) (pa_cons (pv 4) pa_nil)))) (pss_cons (ps_if (pt_not (pt_val (pe_calln c_fits hr (by decide) rfl (pa_cons (pv 5) (pa_cons (pe_ix (ix_listK (K := K) rfl) (pv 1) (pv 3) (fun _ _ => rfl)) pa_nil))))) (pss_one (ps_raise wants_def rfl (C := ca.OverClaim) (ck.exc .overClaim).exc rfl ck.OverClaim (pa_cons pe_str pa_nil))) pss_nil) (pss_cons (ps_if (pt_not (pt_val (pe_calln c_fits hr (by decide) rfl (pa_cons (pv 4) (pa_cons (pe_calln c_free_of hr (by decide) rfl (pa_cons (pv 0) (pa_cons (pv 2) pa_nil))) pa_nil))))) (pss_one (ps_raise wants_def rfl (C := ca.NotFree) (ck.exc .notFree).exc rfl ck.NotFree (pa_cons pe_str pa_nil))) pss_nil) (pss_cons (ps_set (i := 6) sc_lent.nd rfl (Or.inl rfl) (pe_calln c_with_loan hr (by decide) rfl (pa_cons (pv 2) (pa_cons (pv 3) (pa_cons (pv 5) pa_nil))))) (pss_cons (ps_if (pt_cmpR op_eq (pe_ix (ix_tupK (K := K) rfl) (pe_calln c_way_out hr (by decide) rfl (pa_cons (pv 0) (pa_cons (pv 1) (pa_cons (pv 6) pa_nil)))) pe_int (fun _ _ => rfl)) pe_str (nomark _)) (pss_one (ps_raise wants_def rfl (C := ca.Knotted) (ck.exc .knotted).exc rfl ck.Knotted (pa_cons pe_str pa_nil))) pss_nil) (pss_one (ps_ret (pv 6))))))))), ?_⟩
  refine ⟨_, rfl, _, rfl, _, rfl, c, d, _, wk, am, rfl, hc, hd, by omega, fun H1 s1 => ?_⟩
  rw [refs_len, hR.len]
  unfold lentM at q
  by_cases c1 : wk < 0 ∨ (xss.length : Int) ≤ wk
  · rw [if_pos c1] at q ⊢
    exact q H1 s1
  rw [if_neg c1] at q ⊢
  by_cases c2 : am.any (fun x => decide (x < 0)) = true
  · rw [if_pos c2] at q ⊢
    exact q H1 s1
  rw [if_neg c2] at q ⊢
  obtain ⟨k, rfl⟩ : ∃ k : Nat, wk = (k : Int) := ⟨wk.toNat, by omega⟩
  have hk : k < xss.length := by omega
  rw [Int.toNat_natCast] at q
  have hxe : xss[k]? = some (xss.getD k []) := by rw [List.getD_eq_getElem?_getD, List.getElem?_eq_getElem hk]; rfl
  have hce : css[k]? = some (css.getD k []) := by rw [List.getD_eq_getElem?_getD, List.getElem?_eq_getElem (by rw [G.lc]; exact hk)]; rfl
  have hlx : (xss.getD k []).length = st.length := G.rx _ (row_mem hk)
  have hlc : (css.getD k []).length = st.length := G.rc _ (row_mem (by rw [G.lc]; exact hk))
  have hG2 := G.lend hk hal (any_neg c2)
  generalize xss.getD k [] = x at *
  generalize css.getD k [] = cl at *
  obtain ⟨r, er, hr'⟩ := hR.get hxe
  obtain ⟨r2, er2, hr2⟩ := hC.get hce
  have hlv : (vadd x am).length = st.length := by rw [vadd_len (by omega)]; exact hlx
  refine ⟨_, rfl, _, rfl, c, _, _, _, rfl, rfl, s1.seq hc, atI_refs er, _, rfl, r, d, x, am, rfl, SqL.of (s1 _ _ hr'), s1.seq hd, by omega, by omega, fun H2 M s2 hM0 hM => ?_⟩
  have s12 := s1.trans s2
  refine ⟨_, rfl, _, rfl, _, rfl, b, _, _, _, rfl, rfl, s12.seq hb, atI_refs er2, M, r2, _, _, rfl, SqL.of hM, SqL.of (s12 _ _ hr2), by omega, fun H3 s3 => ?_⟩
  have s13 := s12.trans s3
  by_cases c3 : fitsM (vadd x am) cl = false
  · rw [if_pos c3] at q
    rw [c3]
    exact ⟨_, rfl, iteT ⟨(by show 1 ≤ sizeLine; decide), q H3 s13⟩⟩
  rw [if_neg c3] at q
  rw [nf c3]
  refine ⟨_, rfl, iteF ?_⟩
  refine ⟨_, rfl, _, rfl, _, rfl, a, c, st, rs, xss, rfl, s13.seq ha, s13.seq hc, hR.same s13, G.rx, hz, fun H4 F4 s4 hF0 hF => ?_⟩
  have s14 := s13.trans s4
  have hfl := G.free
  refine ⟨d, F4, am, _, rfl, s14.seq hd, SqL.of hF, by rw [hal]; exact hfl.symm, fun H5 s5 => ?_⟩
  have s15 := s14.trans s5
  have hfe : xss.foldl vsub st = freeM st xss := rfl
  rw [hfe]
  by_cases c4 : fitsM am (freeM st xss) = false
  · rw [if_pos c4] at q
    rw [c4]
    exact ⟨_, rfl, iteT ⟨(by show 1 ≤ sizeLine; decide), q H5 s15⟩⟩
  rw [if_neg c4] at q
  rw [nf c4]
  refine ⟨_, rfl, iteF ?_⟩
  have hM5 := s5 _ _ (s4 _ _ (s3 _ _ hM))
  refine ⟨_, rfl, _, rfl, _, rfl, c, M, rs, xss, k, _, rfl, s15.seq hc, hR.same s15, hk, hz2, hM5, fun H6 L qs s6 hL0 hL hQ hq => ?_⟩
  have s16 := s15.trans s6
  have hfree : H L = none ∧ ∀ r ∈ qs, H r = none := ⟨s15.free hL0, fun r2 hr2 => by
    rcases hq r2 hr2 with z | z
    · rw [z]; exact s1.free hM0
    · exact s15.free z⟩
  have hn2 : (xss.set k (vadd x am)).length = xss.length := List.length_set
  refine ⟨_, rfl, _, rfl, _, rfl, a, b, L, st, cs, qs, css, xss.set k (vadd x am), rfl, s16.seq ha, s16.seq hb, hC.same s16, SqL.of hL, hQ, hG2.lc, hG2.rc, hG2.rx, hG2.nn, hz, by omega, fun H7 T Lo o bb s7 hT hLo hW => ?_⟩
  cases bb with
  | true =>
    have hs : SafeM st css (xss.set k (vadd x am)) := ⟨o, hW.1, hW.2⟩
    rw [if_pos hs] at q
    refine ⟨T, _, _, _, rfl, rfl, SqT.of hT, rfl, rfl, _, rfl, ?_⟩
    refine iteFd (by decide) ?_
    exact ⟨_, rfl, q H7 L qs (s16.trans s7) (s7 _ _ hL) (hQ.same s7) hfree.1 hfree.2⟩
  | false =>
    have hs : ¬ SafeM st css (xss.set k (vadd x am)) := Knot.not_safe hG2.yd hG2.free hW
    rw [if_neg hs] at q
    refine ⟨T, _, _, _, rfl, rfl, SqT.of hT, rfl, rfl, _, rfl, ?_⟩
    refine iteTd (by decide) ?_
    exact ⟨(by show 1 ≤ sizeLine; decide), q H7 (s16.trans s7)⟩

/-- a deed in the heap -/
def DeedAt (H : Hp) (e : Addr) (d : Deed) : Prop := ∃ b, H e = some (.tup [.str d.word, .int d.wk, .ref b]) ∧ H b = some (.lst (intL d.am))
theorem DeedAt.same {H H' : Hp} {e : Addr} {d : Deed} (h : DeedAt H e d) (s : Same H H') : DeedAt H' e d := let ⟨b, x, y⟩ := h; ⟨b, s _ _ x, s _ _ y⟩

def afterDone (H : Hp) (Q : VK) (E : XK) (ca : CA) (d : Deed) : Except Xk (List (List Int)) → Prop
  | .error i => ∀ H', Same H H' → E (.ref (ca.at i)) none H'
  | .ok yss => ∀ H' T L qs, Same H H' → H T = none → H' T = some (.tup [.str d.good, .ref L]) → H' L = some (.lst (refL qs)) → Rows H' qs yss → H L = none → (∀ r ∈ qs, H r = none) → Q (.ref T) H'
def spDone (K : PySem.W.Frag) (ca : CA) : Sp := fun vs H Q E => ∃ (a b c e : Addr) (st : List Int) (cs rs : List Addr) (css xss : List (List Int)) (d : Deed), vs = [.ref a, .ref b, .ref c, .ref e] ∧ SqL K H a (intL st) ∧ SqL K H b (refL cs) ∧ Rows H cs css ∧ SqL K H c (refL rs) ∧ Rows H rs xss ∧ DeedAt H e d ∧
  Gd st css xss ∧ d.am.length = st.length ∧ st.length ≤ 1000 ∧ xss.length ≤ 1000 ∧ afterDone H Q E ca d (doneM st css xss d)
theorem ok_done (bi : BI mg) {ca : CA} (ck : CK K mg ca)
    (c_lent : CalleeX P w K mg base "lent" 5 ["stock", "claims", "loans", "worker", "amounts"] (spLent K ca))
    (c_returned : CalleeX P w K mg base "returned" 4 ["loans", "worker", "amounts"] (spReturned K ca))
    {f : Addr} {fd : FuncData} (F : Fun K "done" "done" s_done f fd) : FnOk P w K mg base (CX1 P w) 6 f fd ["stock", "claims", "loans", "deed"] (spDone K ca) := by
  refine F.okX sc_done (fun vs H Q E h => ?_) (fun cdv A outer s H vs Q E hr h => ?_)
  · obtain ⟨a, b, c, e, st, cs, rs, css, xss, d, rfl, _⟩ := h
    rfl
  obtain ⟨a, b, c, e, st, cs, rs, css, xss, d, rfl, ha, hb, hC, hc, hR, ⟨g, he, hg⟩, G, hal, hz, hz2, q⟩ := h
  refine ⟨_, (pss_cons (ps_if (pt_cmpR op_eq (pe_ix (ix_tupK (K := K) rfl) (pv 3) pe_int (fun _ _ => rfl)) pe_str (nomark _)) (pss_one (ps_ret (pe_tup (pa_cons pe_str (pa_cons (pe_callX c_lent hr (by decide) rfl (Passes.s passes_def) (pa_cons (pv 0) (pa_cons (pv 1) (pa_cons (pv 2) (pa_cons (pe_ix (ix_tupK (K := K) rfl) (pv 3) pe_int (fun _ _ => rfl)) (pa_cons (pe_ix (ix_tupK (K := K) rfl) (pv 3) pe_int (fun _ _ => rfl)) pa_nil)))))) pa_nil))))) pss_nil) (pss_one (ps_ret (pe_tup (pa_cons pe_str (pa_cons (pe_callX c_returned hr (by decide) rfl (Passes.s passes_def) (pa_cons (pv 2) (pa_cons (pe_ix (ix_tupK (K := K) rfl) (pv 3) pe_int (fun _ _ => rfl)) (pa_cons (pe_ix (ix_tupK (K := K) rfl) (pv 3) pe_int (fun _ _ => rfl)) pa_nil)))) pa_nil)))))), ?_⟩
  unfold doneM at q
  refine ⟨_, rfl, e, _, _, _, rfl, rfl, SqT.of he, rfl, rfl, _, rfl, ?_⟩
  cases hask : d.ask with
  | true =>
    have hw : d.word = "ask" := by unfold Deed.word; rw [hask]; rfl
    have hgd : d.good = "lent" := by unfold Deed.good; rw [hask]; rfl
    rw [hask, if_pos rfl] at q
    rw [hw]
    refine iteTd (by decide) ?_
    refine ⟨_, rfl, _, rfl, _, rfl, _, rfl, e, _, _, _, rfl, rfl, SqT.of he, rfl, _, rfl, e, _, _, _, rfl, rfl, SqT.of he, rfl, ?_⟩
    refine ⟨a, b, c, g, st, cs, rs, css, xss, d.wk, d.am, rfl, ha, hb, hC, hc, hR, SqL.of hg, G, hal, hz, hz2, ?_⟩
    cases hl : lentM st css xss d.wk d.am with
    | error i =>
      rw [hl] at q
      exact q
    | ok yss =>
      rw [hl] at q
      intro H1 L qs s1 hL hQ hL0 hq0
      refine ⟨(by show 2 ≤ sizeLine; decide), fun T hT => ?_⟩
      have s2 := same_new hT (.tup [.str "lent", .ref L])
      exact q _ T L qs (s1.trans s2) (s1.free hT) (by rw [upd_same, hgd]) (s2 _ _ hL) (hQ.same s2) hL0 hq0
  | false =>
    have hw : d.word = "give" := by unfold Deed.word; rw [hask]; rfl
    have hgd : d.good = "given back" := by unfold Deed.good; rw [hask]; rfl
    rw [hask, if_neg (by decide)] at q
    rw [hw]
    refine iteFd (by decide) ?_
    refine ⟨_, rfl, _, rfl, e, _, _, _, rfl, rfl, SqT.of he, rfl, _, rfl, e, _, _, _, rfl, rfl, SqT.of he, rfl, ?_⟩
    refine ⟨c, g, rs, xss, d.wk, d.am, rfl, hc, hR, SqL.of hg, fun x hx => by rw [G.rx x hx, hal], hz2, by omega, ?_⟩
    cases hl : retM xss d.wk d.am with
    | error i =>
      rw [hl] at q
      exact q
    | ok yss =>
      rw [hl] at q
      intro H1 L qs s1 hL hQ hL0 hq0
      refine ⟨(by show 2 ≤ sizeLine; decide), fun T hT => ?_⟩
      have s2 := same_new hT (.tup [.str "given back", .ref L])
      exact q _ T L qs (s1.trans s2) (s1.free hT) (by rw [upd_same, hgd]) (s2 _ _ hL) (hQ.same s2) hL0 hq0

def spAnswered (K : PySem.W.Frag) : Sp := fun vs H Q _ => ∃ (a b c e : Addr) (st : List Int) (cs rs : List Addr) (css xss : List (List Int)) (d : Deed), vs = [.ref a, .ref b, .ref c, .ref e] ∧ SqL K H a (intL st) ∧ SqL K H b (refL cs) ∧ Rows H cs css ∧ H c = some (.lst (refL rs)) ∧ Rows H rs xss ∧ DeedAt H e d ∧
  Gd st css xss ∧ d.am.length = st.length ∧ st.length ≤ 1000 ∧ xss.length ≤ 1000 ∧
  ∀ H' T L qs, Same H H' → H T = none → H' T = some (.tup [.str (stepM st css xss d).1, .ref L]) → H' L = some (.lst (refL qs)) → Rows H' qs (stepM st css xss d).2 → ((L = c ∧ qs = rs) ∨ (H L = none ∧ ∀ r ∈ qs, H r = none)) → Q (.ref T) H'
theorem ok_answered (bi : BI mg) {ca : CA} (ck : CK K mg ca)
    (c_done : CalleeX P w K mg base "done" 6 ["stock", "claims", "loans", "deed"] (spDone K ca))
    {f : Addr} {fd : FuncData} (F : Fun K "answered" "answered" s_answered f fd) : FnOk P w K mg base CX0 7 f fd ["stock", "claims", "loans", "deed"] (spAnswered K) := by
  refine F.ok sc_answered (fun vs H Q E h => ?_) (fun cdv A outer s H vs Q E hr h => ?_)
  · obtain ⟨a, b, c, e, st, cs, rs, css, xss, d, rfl, _⟩ := h
    rfl
  obtain ⟨a, b, c, e, st, cs, rs, css, xss, d, rfl, ha, hb, hC, hc, hR, he, G, hal, hz, hz2, q⟩ := h
  refine ⟨_, (pss_one (ps_try rfl rfl (fun pn W E hp => (pss_one (ps_ret (pe_callX c_done hr (by decide) rfl hp (pa_cons (pv 0) (pa_cons (pv 1) (pa_cons (pv 2) (pa_cons (pv 3) pa_nil)))))))) (ph_cons rfl ck.NoWorker (fun C ea oe pn hc hp => (pss_one (ps_ret (pe_tup (pa_cons pe_str (pa_cons (pv 2) pa_nil)))))) (ph_cons rfl ck.NoAmount (fun C ea oe pn hc hp => (pss_one (ps_ret (pe_tup (pa_cons pe_str (pa_cons (pv 2) pa_nil)))))) (ph_cons rfl ck.OverClaim (fun C ea oe pn hc hp => (pss_one (ps_ret (pe_tup (pa_cons pe_str (pa_cons (pv 2) pa_nil)))))) (ph_cons rfl ck.NotFree (fun C ea oe pn hc hp => (pss_one (ps_ret (pe_tup (pa_cons pe_str (pa_cons (pv 2) pa_nil)))))) (ph_cons rfl ck.Knotted (fun C ea oe pn hc hp => (pss_one (ps_ret (pe_tup (pa_cons pe_str (pa_cons (pv 2) pa_nil)))))) (ph_cons rfl ck.NotLent (fun C ea oe pn hc hp => (pss_one (ps_ret (pe_tup (pa_cons pe_str (pa_cons (pv 2) pa_nil)))))) ph_nil)))))))), ?_⟩
  refine ⟨_, rfl, _, rfl, _, rfl, _, rfl, a, b, c, e, st, cs, rs, css, xss, d, rfl, ha, hb, hC, SqL.of hc, hR, he, G, hal, hz, hz2, ?_⟩
  unfold stepM at q
  cases hd : doneM st css xss d with
  | ok yss =>
    rw [hd] at q
    intro H1 T L qs s1 hT0 hT hL hQ hL0 hq0
    exact q H1 T L qs s1 hT0 hT hL hQ (.inr ⟨hL0, hq0⟩)
  | error i =>
    rw [hd] at q
    intro H1 s1
    refine ⟨_, rfl, fun ea => ?_⟩
    have fin : ∀ T, H1 T = none → Q (.ref T) (upd H1 T (.tup [.str (wordX i), .ref c])) := fun T hT => by
      have s2 := same_new hT (.tup [.str (wordX i), .ref c])
      exact q _ T c rs (s1.trans s2) (s1.free hT) upd_same (s2 _ _ (s1 _ _ hc)) (hR.same (s1.trans s2)) (.inl ⟨rfl, rfl⟩)
    cases i with
    | noWorker => exact .inl ⟨ck.exm .noWorker .noWorker, _, rfl, (by show 2 ≤ sizeLine; decide), fin⟩
    | noAmount => exact .inr ⟨ck.exm .noAmount .noWorker, .inl ⟨ck.exm .noAmount .noAmount, _, rfl, (by show 2 ≤ sizeLine; decide), fin⟩⟩
    | overClaim => exact .inr ⟨ck.exm .overClaim .noWorker, .inr ⟨ck.exm .overClaim .noAmount, .inl ⟨ck.exm .overClaim .overClaim, _, rfl, (by show 2 ≤ sizeLine; decide), fin⟩⟩⟩
    | notFree => exact .inr ⟨ck.exm .notFree .noWorker, .inr ⟨ck.exm .notFree .noAmount, .inr ⟨ck.exm .notFree .overClaim, .inl ⟨ck.exm .notFree .notFree, _, rfl, (by show 2 ≤ sizeLine; decide), fin⟩⟩⟩⟩
    | knotted => exact .inr ⟨ck.exm .knotted .noWorker, .inr ⟨ck.exm .knotted .noAmount, .inr ⟨ck.exm .knotted .overClaim, .inr ⟨ck.exm .knotted .notFree, .inl ⟨ck.exm .knotted .knotted, _, rfl, (by show 2 ≤ sizeLine; decide), fin⟩⟩⟩⟩⟩
    | notLent => exact .inr ⟨ck.exm .notLent .noWorker, .inr ⟨ck.exm .notLent .noAmount, .inr ⟨ck.exm .notLent .overClaim, .inr ⟨ck.exm .notLent .notFree, .inr ⟨ck.exm .notLent .knotted, .inl ⟨ck.exm .notLent .notLent, _, rfl, (by show 2 ≤ sizeLine; decide), fin⟩⟩⟩⟩⟩⟩

theorem zeros_flat (n : Nat) : (List.replicate n [V.int 0]).flatten = intL (List.replicate n 0) := by
  induction n with
  | zero => rfl
  | succ n ih => rw [List.replicate_succ, List.flatten_cons, ih]; rfl
def DeedsAt (H : Hp) (es : List Addr) (ds : List Deed) : Prop := es.length = ds.length ∧ ∀ (i : Nat) d, ds[i]? = some d → ∃ e, es[i]? = some e ∧ DeedAt H e d
theorem DeedsAt.same {H H' : Hp} {es : List Addr} {ds : List Deed} (h : DeedsAt H es ds) (s : Same H H') : DeedsAt H' es ds := ⟨h.1, fun i d e => let ⟨x, y, z⟩ := h.2 i d e; ⟨x, y, z.same s⟩⟩
/-- a pair in the heap, clear of P -/
def PairAt (P : Addr) (H : Hp) (p : Addr) (wx : Str × List (List Int)) : Prop := ∃ L qs, p ≠ P ∧ L ≠ P ∧ P ∉ qs ∧ H p = some (.tup [.str wx.1, .ref L]) ∧ H L = some (.lst (refL qs)) ∧ Rows H qs wx.2
theorem PairAt.same {P : Addr} {H H' : Hp} {p : Addr} {wx : Str × List (List Int)} (h : PairAt P H p wx) (s : Same H H') : PairAt P H' p wx := let ⟨L, qs, a, b, c, d, e, f⟩ := h; ⟨L, qs, a, b, c, s _ _ d, s _ _ e, f.same s⟩
theorem PairAt.updt {P : Addr} {H : Hp} {p : Addr} {wx : Str × List (List Int)} {o : HO} (h : PairAt P H p wx) : PairAt P (upd H P o) p wx := by
  obtain ⟨L, qs, a, b, c, d, e, f⟩ := h
  exact ⟨L, qs, a, b, c, by rw [upd_ne a]; exact d, by rw [upd_ne b]; exact e, f.updt c⟩
def PairsAt (P : Addr) (H : Hp) (ps : List Addr) (ws : List (Str × List (List Int))) : Prop := ps.length = ws.length ∧ ∀ (i : Nat) p, ps[i]? = some p → ∃ wx, ws[i]? = some wx ∧ PairAt P H p wx
theorem PairsAt.snoc {P : Addr} {H : Hp} {ps : List Addr} {ws : List (Str × List (List Int))} {p : Addr} {wx : Str × List (List Int)} (h : PairsAt P H ps ws) (hp : PairAt P H p wx) : PairsAt P H (ps ++ [p]) (ws ++ [wx]) := by
  refine ⟨by simp [h.1], fun i q e => ?_⟩
  by_cases hi : i < ps.length
  · rw [List.getElem?_append_left hi] at e
    rw [List.getElem?_append_left (by rw [← h.1]; exact hi)]
    exact h.2 i q e
  · rw [List.getElem?_append_right (by omega)] at e
    have hi' : i = ps.length := by
      have := (List.getElem?_eq_some_iff.mp e).1
      simp at this
      omega
    subst hi'
    rw [List.getElem?_append_right (by rw [← h.1]; exact Nat.le_refl _), h.1]
    simp at e
    subst e
    exact ⟨wx, by simp, hp⟩
def spSteps (K : PySem.W.Frag) : Sp := fun vs H Q _ => ∃ (a b c : Addr) (st : List Int) (cs es : List Addr) (css : List (List Int)) (ds : List Deed), vs = [.ref a, .ref b, .ref c] ∧ SqL K H a (intL st) ∧ SqL K H b (refL cs) ∧ Rows H cs css ∧ SqL K H c (refL es) ∧ DeedsAt H es ds ∧
  (∀ x ∈ css, x.length = st.length) ∧ (∀ d ∈ ds, d.am.length = st.length) ∧ st.length ≤ 1000 ∧ css.length ≤ 1000 ∧ ds.length ≤ 1000 ∧
  ∀ H' P ps, Same H H' → H' P = some (.lst (refL ps)) → PairsAt P H' ps (dayM st css (zerosM css st.length) ds) → Q (.ref P) H'
theorem ok_steps (bi : BI mg) {ca : CA} (ck : CK K mg ca)
    (c_answered : Callee P w K mg base "answered" 7 ["stock", "claims", "loans", "deed"] (spAnswered K))
    {f : Addr} {fd : FuncData} (F : Fun K "steps" "steps" s_steps f fd) : FnOk P w K mg base CX0 8 f fd ["stock", "claims", "deeds"] (spSteps K) := by
  refine F.ok sc_steps (fun vs H Q E h => ?_) (fun cdv A outer s H vs Q E hr h => ?_)
  · obtain ⟨a, b, c, st, cs, es, css, ds, rfl, _⟩ := h
    rfl
  obtain ⟨a, b, c, st, cs, es, css, ds, rfl, ha, hb, hC, hc, hD, hlc, hld, hz, hz2, hz3, q⟩ := h
  refine ⟨_, (pss_cons (ps_setC (i := 3) sc_steps.nd rfl (Or.inl rfl) (blk_mk (own := ["claim"]) (caps := []) (js := []) rfl (by decide +kernel) (by decide +kernel) rfl trivial) rfl (pi_listK (K := K) rfl (pv 1)) (fun _ _ _ _ => (pg_name (i := 0) (show (["claim"] : List Str).Nodup by decide +kernel) rfl (Or.inl rfl))) (fun _ _ _ _ => pif_nil) (fun _ _ _ _ => (pe_op op_rep (pe_lst (pa_cons pe_int pa_nil)) (pe_callB (call_len_seqK (K := K) rfl) rfl bi.len PySem.boot_len (pa_cons (pv 0) pa_nil))))) (pss_cons (ps_set (i := 4) sc_steps.nd rfl (Or.inl rfl) (pe_lst pa_nil)) (pss_cons (ps_for PassesOwn.never rfl (pi_listK (K := K) rfl (pv 2)) (pg_name (i := 5) sc_steps.nd rfl (Or.inl rfl)) (pss_cons (ps_set (i := 6) sc_steps.nd rfl (Or.inl rfl) (pe_calln c_answered hr (by decide) rfl (pa_cons (pv 0) (pa_cons (pv 1) (pa_cons (pv 3) (pa_cons (pv 5) pa_nil)))))) (pss_cons (ps_set (i := 3) sc_steps.nd rfl (Or.inl rfl) (pe_ix (ix_tupK (K := K) rfl) (pv 6) pe_int (fun _ _ => rfl))) (pss_one (ps_expr (pe_appendK (K := K) rfl (pv 4) (pa_cons (pv 6) pa_nil))))))) (pss_one (ps_ret (pv 4)))))), ?_⟩
  refine ⟨_, rfl, b, rfl, ⟨_, hb⟩, ?_⟩
  refine comp_list_refs (fun i r D H' => r ≠ D ∧ H' r = some (.lst (intL (List.replicate st.length 0)))) hb (by rw [refs_len, hC.len]; exact small hz2)
    (fun i r D H H' h e => ⟨h.1, e _ _ h.2⟩) (fun i r D H o h => ⟨h.1, by rw [upd_ne h.1]; exact h.2⟩) ?_ ?_
  · intro i x D o H' Kx hx sm hD0 hDo k
    rw [List.getElem?_map] at hx
    cases e1 : cs[i]? with
    | none => rw [e1] at hx; cases hx
    | some r1 =>
      rw [e1] at hx
      cases hx
      obtain ⟨c1, f1, g1⟩ := hC.getr e1
      have l1 := hlc c1 (List.mem_of_getElem? f1)
      refine ⟨(by show 1 ≤ sizeLine; decide), fun Z hZ => ?_⟩
      have s2 := same_new hZ (.lst [.int 0])
      refine ⟨_, rfl, r1, _, rfl, .inl (SqL.of (s2 _ _ (sm _ _ g1))), Z, _, _, rfl, rfl, upd_same, by omega, by rw [ints_len]; omega, ?_, fun p hp => ?_⟩
      · rw [ints_len, l1, Int.toNat_natCast]
        show 1 * st.length ≤ sizeLine
        exact small (by omega)
      rw [ints_len, l1, Int.toNat_natCast, zeros_flat]
      have s3 := same_new hp (.lst (intL (List.replicate st.length 0)))
      exact k _ _ (s2.trans s3) ⟨(fun e => by rw [e, s2 _ _ hDo] at hp; cases hp), upd_same⟩
  intro L0 H1 qs hL0 s1 hLs hql hqs
  have hQ0 : Rows H1 qs (zerosM css st.length) := by
    refine Rows.of_get (by unfold zerosM; rw [hql, refs_len, hC.len, List.length_map]) fun i r e => ?_
    have hi : i < css.length := by
      have := (List.getElem?_eq_some_iff.mp e).1
      rw [hql, refs_len, hC.len] at this
      exact this
    exact ⟨_, by unfold zerosM; rw [List.getElem?_map, List.getElem?_eq_getElem hi]; rfl, (hqs i r e).2⟩
  refine ⟨(by show 0 ≤ sizeLine; decide), fun P hP => ?_⟩
  have sP := same_new hP (.lst [])
  have hP0 : H P = none := s1.free hP
  refine ⟨_, rfl, c, rfl, ⟨_, (s1.trans sP).seq hc⟩, ?_⟩
  refine for_list (xs := refL es) (fun i σ' H' => ∃ L rs ps p5 p6, σ' = [some (.ref a), some (.ref b), some (.ref c), some (.ref L), some (.ref P), p5, p6] ∧ Same H H' ∧ L ≠ P ∧ P ∉ rs ∧ H' L = some (.lst (refL rs)) ∧ Rows H' rs (runM st css (zerosM css st.length) (ds.take i)) ∧
      H' P = some (.lst (refL ps)) ∧ PairsAt P H' ps (dayM st css (zerosM css st.length) (ds.take i)))
    ⟨L0, qs, [], none, none, rfl, s1.trans sP, (fun e => by rw [e, hP] at hLs; cases hLs), hQ0.fresh hP, sP _ _ hLs, hQ0.same sP, upd_same, ⟨rfl, fun i p e => by simp at e⟩⟩ (fun i σ' H' _ ⟨L, rs, ps, p5, p6, _, sm, _⟩ => sm.seq hc) ?_ ?_
  · rintro i x σ' H' hx ⟨L, rs, ps, p5, p6, rfl, sm, hLP, hPr, h_L, hR, h_P, hPs⟩
    rw [List.getElem?_map] at hx
    cases e1 : es[i]? with
    | none => rw [e1] at hx; cases hx
    | some e =>
      rw [e1] at hx
      cases hx
      have hi : i < ds.length := by rw [← hD.1]; exact (List.getElem?_eq_some_iff.mp e1).1
      have hdi : ds[i]? = some ds[i] := List.getElem?_eq_getElem hi
      obtain ⟨e', e2, hde⟩ := hD.2 i _ hdi
      rw [e1] at e2
      cases e2
      have hdm : ds[i] ∈ ds := List.getElem_mem hi
      have G := run_gd (ds := ds.take i) (zeros_gd hlc) fun d hd => hld d (List.mem_of_mem_take hd)
      have hlen : (runM st css (zerosM css st.length) (ds.take i)).length ≤ 1000 := by rw [run_len]; unfold zerosM; rw [List.length_map]; exact hz2
      refine ⟨_, rfl, _, rfl, _, rfl, _, rfl, a, b, L, e, st, cs, rs, css, _, ds[i], rfl, sm.seq ha, sm.seq hb, hC.same sm, h_L, hR, hde.same sm, G, hld _ hdm, hz, hlen, fun H2 T L2 qs2 s2 hT0 hT hL2 hQ2 hcl => ?_⟩
      have hTP : T ≠ P := fun e => by rw [e, h_P] at hT0; cases hT0
      have hcl2 : L2 ≠ P ∧ P ∉ qs2 := by
        rcases hcl with ⟨rfl, rfl⟩ | ⟨z1, z2⟩
        · exact ⟨hLP, hPr⟩
        · exact ⟨(fun e => by rw [e, h_P] at z1; cases z1), (fun z => by have := z2 P z; rw [h_P] at this; cases this)⟩
      refine ⟨_, rfl, T, _, _, _, rfl, rfl, SqT.of hT, rfl, ?_⟩
      have h_P2 := s2 _ _ h_P
      have hpl : ps.length ≤ 1000 := by rw [hPs.1, day_len, List.length_take]; omega
      refine ⟨_, rfl, .inl ⟨rfl, _, SqL.of h_P2⟩, _, rfl, P, _, _, rfl, rfl, h_P2, (by rw [refs_len]; exact small1000 hpl), ?_⟩
      have htk : ds.take (i + 1) = ds.take i ++ [ds[i]] := by rw [List.take_add_one, hdi]; rfl
      have hpr : PairAt P H2 T (stepM st css (runM st css (zerosM css st.length) (ds.take i)) ds[i]) := ⟨L2, qs2, hTP, hcl2.1, hcl2.2, hT, hL2, hQ2⟩
      refine ⟨L2, qs2, ps ++ [T], _, _, rfl, same_upd (sm.trans s2) hP0, hcl2.1, hcl2.2, by rw [upd_ne hcl2.1]; exact hL2, ?_, by rw [upd_same, refs_snoc], ?_⟩
      · rw [htk, run_append]
        exact hQ2.updt hcl2.2
      · rw [htk, day_append]
        refine PairsAt.snoc ⟨hPs.1, fun k p ek => ?_⟩ hpr.updt
        obtain ⟨wx, ew, hw⟩ := hPs.2 k p ek
        exact ⟨wx, ew, (hw.same s2).updt⟩
  · rintro σ' H' ⟨L, rs, ps, p5, p6, rfl, sm, hLP, hPr, h_L, hR, h_P, hPs⟩
    refine ⟨_, rfl, q H' P ps sm h_P ?_⟩
    rw [refs_len, hD.1, List.take_of_length_le (Nat.le_refl _)] at hPs
    exact hPs

def spBehind (K : PySem.W.Frag) : Sp := fun vs H Q _ => ∃ (a b c : Addr) (st : List Int) (cs es : List Addr) (css : List (List Int)) (ds : List Deed), vs = [.ref a, .ref b, .ref c] ∧ SqL K H a (intL st) ∧ SqL K H b (refL cs) ∧ Rows H cs css ∧ SqL K H c (refL es) ∧ DeedsAt H es ds ∧
  (∀ x ∈ css, x.length = st.length) ∧ (∀ d ∈ ds, d.am.length = st.length) ∧ st.length ≤ 1000 ∧ css.length ≤ 1000 ∧ ds.length ≤ 1000 ∧
  ∀ H' L ps, Same H H' → H' L = some (.lst (refL ps)) → ps.length = ds.length → (∀ (i : Nat) r, ps[i]? = some r → ∃ qs wx, H' r = some (.lst (refL qs)) ∧ (dayM st css (zerosM css st.length) ds)[i]? = some wx ∧ Rows H' qs wx.2) → Q (.ref L) H'
theorem ok_loans_behind (bi : BI mg) {ca : CA} (ck : CK K mg ca)
    (c_steps : Callee P w K mg base "steps" 8 ["stock", "claims", "deeds"] (spSteps K))
    (c_copies : Callee P w K mg base "copies" 2 ["loans"] (spCopies K))
    {f : Addr} {fd : FuncData} (F : Fun K "loans_behind" "loans_behind" s_loans_behind f fd) : FnOk P w K mg base CX0 9 f fd ["stock", "claims", "deeds"] (spBehind K) := by
  refine F.ok sc_loans_behind (fun vs H Q E h => ?_) (fun cdv A outer s H vs Q E hr h => ?_)
  · obtain ⟨a, b, c, st, cs, es, css, ds, rfl, _⟩ := h
    rfl
  obtain ⟨a, b, c, st, cs, es, css, ds, rfl, ha, hb, hC, hc, hD, hlc, hld, hz, hz2, hz3, q⟩ := h
  refine ⟨_, (pss_one (ps_ret (pe_comp (blk_mk (own := ["pair"]) (caps := []) (js := []) rfl (by decide +kernel) (by decide +kernel) rfl trivial) rfl (pi_listK (K := K) rfl (pe_calln c_steps hr (by decide) rfl (pa_cons (pv 0) (pa_cons (pv 1) (pa_cons (pv 2) pa_nil))))) (fun _ _ _ _ => (pg_name (i := 0) (show (["pair"] : List Str).Nodup by decide +kernel) rfl (Or.inl rfl))) (fun _ _ _ _ => pif_nil) (fun _ _ _ _ => (pe_calln c_copies hr (by decide) rfl (pa_cons (pe_ix (ix_tupK (K := K) rfl) (pv 0) pe_int (fun _ _ => rfl)) pa_nil)))))), ?_⟩
  refine ⟨_, rfl, _, rfl, _, rfl, a, b, c, st, cs, es, css, ds, rfl, ha, hb, hC, hc, hD, hlc, hld, hz, hz2, hz3, fun H1 P ps s1 hP hPs => ?_⟩
  refine ⟨P, rfl, ⟨_, SqL.of hP⟩, ?_⟩
  have hl : ps.length = ds.length := by rw [hPs.1, day_len]
  refine comp_list_refs (fun i r D H' => ∃ qs wx, r ≠ D ∧ D ∉ qs ∧ H' r = some (.lst (refL qs)) ∧ (dayM st css (zerosM css st.length) ds)[i]? = some wx ∧ Rows H' qs wx.2) (SqL.of hP) (by rw [refs_len, hl]; exact small hz3)
    (fun i r D H H' ⟨qs, wx, h1, h2, h3, h4, h5⟩ e => ⟨qs, wx, h1, h2, e _ _ h3, h4, h5.same e⟩) (fun i r D H o ⟨qs, wx, h1, h2, h3, h4, h5⟩ => ⟨qs, wx, h1, h2, by rw [upd_ne h1]; exact h3, h4, h5.updt h2⟩) ?_ ?_
  · intro i x D o H' Kx hx sm hD0 hDo k
    rw [List.getElem?_map] at hx
    cases e1 : ps[i]? with
    | none => rw [e1] at hx; cases hx
    | some p =>
      rw [e1] at hx
      cases hx
      obtain ⟨wx, ew, L, qs, _, _, _, hp, hL, hQ⟩ := hPs.2 i p e1
      have hlw : wx.2.length ≤ 1000 := by
        have hi : i < ds.length := by rw [← hl]; exact (List.getElem?_eq_some_iff.mp e1).1
        rw [day_get (List.getElem?_eq_getElem hi)] at ew
        cases ew
        rw [step_len, run_len]; unfold zerosM; rw [List.length_map]; exact hz2
      refine ⟨_, rfl, p, _, _, _, rfl, rfl, SqT.of (sm _ _ hp), rfl, L, qs, wx.2, rfl, SqL.of (sm _ _ hL), hQ.same sm, hlw, fun H2 L2 qs2 s2 hL2 hQ2 hL20 hq20 hLq => ?_⟩
      exact k _ _ s2 ⟨qs2, wx, (fun e => by rw [e, hDo] at hL20; cases hL20), (fun z => by have := hq20 D z; rw [hDo] at this; cases this), hL2, ew, hQ2⟩
  intro D H2 ps2 hD0 s2 hDs hpl hP2
  refine q H2 D ps2 (s1.trans s2) hDs (by rw [hpl, refs_len, hl]) fun i r e => ?_
  obtain ⟨qs, wx, _, _, h3, h4, h5⟩ := hP2 i r e
  exact ⟨qs, wx, h3, h4, h5⟩

def spWide (K : PySem.W.Frag) : Sp := fun vs H Q _ => ∃ (a : Addr) (ns : List Int) (few bound : Int), vs = [.ref a, .int few, .int bound] ∧ SqL K H a (intL ns) ∧ ns.length ≤ 63 ∧ ∀ H' v, Same H H' → (v = few ∨ v = if bound < few + 7 then bound else few + 7) → Q (.int v) H'
theorem ok__law_wide (bi : BI mg) {ca : CA} (ck : CK K mg ca)
    {f : Addr} {fd : FuncData} (F : Fun K "_law_wide" "_law_wide" s__law_wide f fd) : FnOk P w K mg base CX0 2 f fd ["_law_script", "_law_few", "_law_bound"] (spWide K) := by
  refine F.ok sc__law_wide (fun vs H Q E h => ?_) (fun cdv A outer s H vs Q E hr h => ?_)
  · obtain ⟨a, ns, few, bound, rfl, _⟩ := h
    rfl
  obtain ⟨a, ns, few, bound, rfl, hS, h63, q⟩ := h
  refine ⟨_, (pss_cons (ps_if (pt_cmpR op_gt (pe_callB (call_len_seqK (K := K) rfl) rfl bi.len PySem.boot_len (pa_cons (pv 0) pa_nil)) pe_int (nomark _)) (pss_one (ps_ret (pv 2))) pss_nil) (pss_one (ps_ret (pe_ix (ix_listK (K := K) rfl) (pe_lst (pa_cons (pv 1) (pa_cons (pe_callB (call_min2 rfl) rfl bi.min BootN.min (pa_cons (pe_op op_add (pv 1) pe_int) (pa_cons (pv 2) pa_nil))) pa_nil))) (pe_callTy call_int1 rfl bi.int BootN.int (pa_cons (pe_cmpR op_eq (pe_op op_mod (pe_callB (call_sum1K (K := K) rfl rfl) rfl bi.sum BootN.sum (pa_cons (pe_slice (sl_listK (K := K) rfl) (pv 0) po_none (po_some pe_int)) pa_nil)) pe_int) pe_int (nomark _)) pa_nil)) (fun _ _ => rfl))))), ?_⟩
  refine ⟨_, rfl, a, _, rfl, .inl hS, _, _, rfl, rfl, _, rfl, ite2 (fun c => ?_) (fun c => ?_)⟩
  · have c' : (63 : Int) < (((intL ns).length : Nat) : Int) := of_decide_eq_true c
    rw [ints_len] at c'
    omega
  · obtain ⟨ms, hms, hml⟩ := cut_some ns none (some 3)
    refine ⟨_, rfl, _, rfl, _, _, rfl, rfl, _, rfl, _, _, rfl, (by show 2 ≤ sizeLine; decide), fun L hL => ?_⟩
    have s1 := same_new hL (.lst [.int few, .int (if bound < few + 7 then bound else few + 7)])
    refine ⟨_, rfl, _, rfl, a, _, rfl, s1.seq hS, fun C hC => ?_⟩
    have s2 := same_new hC (.lst (cutV (intL ns) none (some 3)))
    refine ⟨C, ms, rfl, (by rw [hms]; exact SqL.of upd_same), _, _, rfl, rfl, (by show (0 : Int) < _; decide), rfl, .inr ⟨_, rfl, L, _, _, _, rfl, rfl, SqL.of (s2 _ _ upd_same), pick2 _ _ _, ?_⟩⟩
    refine q _ _ (s1.trans s2) ?_
    by_cases hk : decide (V.int (ms.sum % 16) = V.int 5) = true
    · rw [if_pos hk]; exact .inr rfl
    · rw [if_neg hk]; exact .inl rfl

def spReach (K : PySem.W.Frag) : Sp := fun vs H Q _ => ∃ (a : Addr) (ns : List Int) (most bound : Int), vs = [.ref a, .int most, .int bound] ∧ SqL K H a (intL ns) ∧ ns.length ≤ 63 ∧ Q (.int most) H
theorem ok__law_reach (bi : BI mg) {ca : CA} (ck : CK K mg ca)
    {f : Addr} {fd : FuncData} (F : Fun K "_law_reach" "_law_reach" s__law_reach f fd) : FnOk P w K mg base CX0 2 f fd ["_law_script", "_law_most", "_law_bound"] (spReach K) := by
  refine F.ok sc__law_reach (fun vs H Q E h => ?_) (fun cdv A outer s H vs Q E hr h => ?_)
  · obtain ⟨a, ns, most, bound, rfl, _⟩ := h
    rfl
  obtain ⟨a, ns, most, bound, rfl, hS, h63, q⟩ := h
  refine ⟨_, (pss_cons (ps_if (pt_cmpR op_gt (pe_callB (call_len_seqK (K := K) rfl) rfl bi.len PySem.boot_len (pa_cons (pv 0) pa_nil)) pe_int (nomark _)) (pss_one (ps_ret (pv 2))) pss_nil) (pss_one (ps_ret (pv 1)))), ?_⟩
  refine ⟨_, rfl, a, _, rfl, .inl hS, _, _, rfl, rfl, _, rfl, ite2 (fun c => ?_) (fun c => ?_)⟩
  · have c' : (63 : Int) < (((intL ns).length : Nat) : Int) := of_decide_eq_true c
    rw [ints_len] at c'
    omega
  · exact ⟨_, rfl, q⟩

def spWhole (K : PySem.W.Frag) : Sp := fun vs H Q _ => ∃ i : Int, vs = [.int i] ∧ Q (.bl true) H
theorem ok__law_whole (bi : BI mg) {ca : CA} (ck : CK K mg ca)
    {f : Addr} {fd : FuncData} (F : Fun K "_law_whole" "_law_whole" s__law_whole f fd) : FnOk P w K mg base CX0 2 f fd ["_law_found"] (spWhole K) := by
  refine F.ok sc__law_whole (fun vs H Q E h => ?_) (fun cdv A outer s H vs Q E hr h => ?_)
  · obtain ⟨i, rfl, _⟩ := h
    rfl
  obtain ⟨i, rfl, q⟩ := h
  refine ⟨_, (pss_one (ps_ret (pe_and (pe_callB (call_isiK (K := K) rfl) rfl bi.isinstance BootN.isinstance (pa_cons (pv 0) (pa_cons (pe_bltn (v := .ty "int") rfl bi.int BootN.int rfl) pa_nil))) (pe_one (pe_not (pe_callB (call_isiK (K := K) rfl) rfl bi.isinstance BootN.isinstance (pa_cons (pv 0) (pa_cons (pe_bltn (v := .ty "bool") rfl bi.bool BootN.bool rfl) pa_nil)))))))), ?_⟩
  refine ⟨_, rfl, _, _, _, _, rfl, .int i, rfl, _, rfl, iteT ?_⟩
  exact ⟨_, rfl, _, _, _, _, rfl, .int i, rfl, _, rfl, q⟩

def spAt (K : PySem.W.Frag) : Sp := fun vs H Q _ => ∃ (a : Addr) (ns : List Int) (k : Int), vs = [.ref a, .int k] ∧ SqL K H a (intL ns) ∧ 0 ≤ k ∧ Q (.int (ns.getD k.toNat 0)) H
theorem ok__law_at (bi : BI mg) {ca : CA} (ck : CK K mg ca)
    {f : Addr} {fd : FuncData} (F : Fun K "_law_at" "_law_at" s__law_at f fd) : FnOk P w K mg base CX0 2 f fd ["_law_script", "_law_k"] (spAt K) := by
  refine F.ok sc__law_at (fun vs H Q E h => ?_) (fun cdv A outer s H vs Q E hr h => ?_)
  · obtain ⟨a, ns, k, rfl, _⟩ := h
    rfl
  obtain ⟨a, ns, k, rfl, hS, h0, q⟩ := h
  refine ⟨_, (pss_cons (ps_if (pt_cmpR op_lt (pv 1) (pe_callB (call_len_seqK (K := K) rfl) rfl bi.len PySem.boot_len (pa_cons (pv 0) pa_nil)) (nomark _)) (pss_one (ps_ret (pe_ix (ix_listK (K := K) rfl) (pv 0) (pv 1) (fun _ _ => rfl)))) pss_nil) (pss_one (ps_ret pe_int))), ?_⟩
  refine ⟨_, rfl, _, rfl, a, _, rfl, .inl hS, _, _, rfl, rfl, _, rfl, ite2 (fun c => ?_) (fun c => ?_)⟩
  · have c' : k < (((intL ns).length : Nat) : Int) := of_decide_eq_true c
    rw [ints_len] at c'
    have ek : k = ((k.toNat : Nat) : Int) := by omega
    have hat := atI_ints (ns := ns) (i := k.toNat) (by omega)
    rw [← ek] at hat
    exact ⟨_, rfl, _, rfl, a, _, _, _, rfl, rfl, hS, hat, q⟩
  · have c' : ¬ k < (((intL ns).length : Nat) : Int) := of_decide_eq_false (Bool.eq_false_iff.mpr c)
    rw [ints_len] at c'
    have e : ns.getD k.toNat 0 = 0 := by rw [List.getD_eq_getElem?_getD, List.getElem?_eq_none (by omega)]; rfl
    rw [e] at q
    exact q

def spNum (K : PySem.W.Frag) : Sp := fun vs H Q _ => ∃ (a b : Addr) (ns : List Int), vs = [.ref a, .ref b] ∧ H a = some (.lst (intL ns)) ∧ H b = some (.lst (intL ns)) ∧ ns.length ≤ 1000 ∧ Q (.bl true) H
theorem ok__law_numbers (bi : BI mg) {ca : CA} (ck : CK K mg ca)
    (c__law_whole : Callee P w K mg base "_law_whole" 2 ["_law_found"] (spWhole K))
    {f : Addr} {fd : FuncData} (F : Fun K "_law_numbers" "_law_numbers" s__law_numbers f fd) : FnOk P w K mg base CX0 3 f fd ["_law_found", "_law_due"] (spNum K) := by
  refine F.ok sc__law_numbers (fun vs H Q E h => ?_) (fun cdv A outer s H vs Q E hr h => ?_)
  · obtain ⟨a, b, ns, rfl, _⟩ := h
    rfl
  obtain ⟨a, b, ns, rfl, ha, hb, hz, q⟩ := h
  refine ⟨_, (pss_cons (ps_if (PW.pt (pw_or (pt_not (pt_val (pe_callB (call_isiK (K := K) rfl) rfl bi.isinstance BootN.isinstance (pa_cons (pv 0) (pa_cons (pe_bltn (v := .ty "list") rfl bi.list BootN.list rfl) pa_nil))))) (pw_or1 (pt_cmpR op_ne (pe_callB (call_len_seqK (K := K) rfl) rfl bi.len PySem.boot_len (pa_cons (pv 0) pa_nil)) (pe_callB (call_len_seqK (K := K) rfl) rfl bi.len PySem.boot_len (pa_cons (pv 1) pa_nil)) (nomark _))))) (pss_one (ps_ret pe_bl)) pss_nil) (pss_cons (ps_for PassesOwn.never rfl (pi_range1 rfl bi.range (pa_cons (pe_callB (call_len_seqK (K := K) rfl) rfl bi.len PySem.boot_len (pa_cons (pv 1) pa_nil)) pa_nil)) (pg_name (i := 2) sc__law_numbers.nd rfl (Or.inl rfl)) (pss_one (ps_if (PW.pt (pw_or (pt_not (pt_val (pe_calln c__law_whole hr (by decide) rfl (pa_cons (pe_ix (ix_listK (K := K) rfl) (pv 0) (pv 2) (fun _ _ => rfl)) pa_nil)))) (pw_or1 (pt_cmpR op_ne (pe_ix (ix_listK (K := K) rfl) (pv 0) (pv 2) (fun _ _ => rfl)) (pe_ix (ix_listK (K := K) rfl) (pv 1) (pv 2) (fun _ _ => rfl)) (nomark _))))) (pss_one (ps_ret pe_bl)) pss_nil))) (pss_one (ps_ret pe_bl)))), ?_⟩
  refine ⟨_, rfl, _, _, _, _, rfl, .lst ha, rfl, _, rfl, iteF ?_⟩
  refine ⟨_, rfl, a, _, rfl, .inl (SqL.of ha), _, rfl, b, _, rfl, .inl (SqL.of hb), rfl, _, rfl, iteNS rfl ?_⟩
  refine ⟨_, rfl, b, _, rfl, .inl (SqL.of hb), _, rfl, by omega, by rw [ints_len]; omega, ?_⟩
  refine for_range0 (fun i σ' H' => (∃ p, σ' = [some (.ref a), some (.ref b), p]) ∧ H' = H) ⟨⟨_, rfl⟩, rfl⟩ ?_ ?_
  · rintro i σ' H' hi ⟨⟨p, rfl⟩, rfl⟩
    have hi' : i < ns.length := by rw [ints_len] at hi; omega
    have hat := atI_ints hi'
    refine ⟨_, rfl, _, rfl, a, _, _, _, rfl, rfl, SqL.of ha, hat, _, rfl, _, rfl, iteF ?_⟩
    exact ⟨_, rfl, _, rfl, a, _, _, _, rfl, rfl, SqL.of ha, hat, _, rfl, _, rfl, b, _, _, _, rfl, rfl, SqL.of hb, hat, rfl, _, rfl, iteNS rfl ⟨⟨_, rfl⟩, rfl⟩⟩
  · rintro σ' H' ⟨⟨p, rfl⟩, rfl⟩
    exact q

def spTab (K : PySem.W.Frag) : Sp := fun vs H Q _ => ∃ (a b : Addr) (rs qs : List Addr) (xss : List (List Int)), vs = [.ref a, .ref b] ∧ H a = some (.lst (refL rs)) ∧ H b = some (.lst (refL qs)) ∧ Rows H rs xss ∧ Rows H qs xss ∧ xss.length ≤ 1000 ∧ (∀ x ∈ xss, x.length ≤ 1000) ∧ Q (.bl true) H
theorem ok__law_tables (bi : BI mg) {ca : CA} (ck : CK K mg ca)
    (c__law_numbers : Callee P w K mg base "_law_numbers" 3 ["_law_found", "_law_due"] (spNum K))
    {f : Addr} {fd : FuncData} (F : Fun K "_law_tables" "_law_tables" s__law_tables f fd) : FnOk P w K mg base CX0 4 f fd ["_law_found", "_law_due"] (spTab K) := by
  refine F.ok sc__law_tables (fun vs H Q E h => ?_) (fun cdv A outer s H vs Q E hr h => ?_)
  · obtain ⟨a, b, rs, qs, xss, rfl, _⟩ := h
    rfl
  obtain ⟨a, b, rs, qs, xss, rfl, ha, hb, hR, hQ, hz, hz2, q⟩ := h
  refine ⟨_, (pss_cons (ps_if (PW.pt (pw_or (pt_not (pt_val (pe_callB (call_isiK (K := K) rfl) rfl bi.isinstance BootN.isinstance (pa_cons (pv 0) (pa_cons (pe_bltn (v := .ty "list") rfl bi.list BootN.list rfl) pa_nil))))) (pw_or1 (pt_cmpR op_ne (pe_callB (call_len_seqK (K := K) rfl) rfl bi.len PySem.boot_len (pa_cons (pv 0) pa_nil)) (pe_callB (call_len_seqK (K := K) rfl) rfl bi.len PySem.boot_len (pa_cons (pv 1) pa_nil)) (nomark _))))) (pss_one (ps_ret pe_bl)) pss_nil) (pss_cons (ps_for PassesOwn.never rfl (pi_range1 rfl bi.range (pa_cons (pe_callB (call_len_seqK (K := K) rfl) rfl bi.len PySem.boot_len (pa_cons (pv 1) pa_nil)) pa_nil)) (pg_name (i := 2) sc__law_tables.nd rfl (Or.inl rfl)) (pss_one (ps_if (pt_not (pt_val (pe_calln c__law_numbers hr (by decide) rfl (pa_cons (pe_ix (ix_listK (K := K) rfl) (pv 0) (pv 2) (fun _ _ => rfl)) (pa_cons (pe_ix (ix_listK (K := K) rfl) (pv 1) (pv 2) (fun _ _ => rfl)) pa_nil))))) (pss_one (ps_ret pe_bl)) pss_nil))) (pss_one (ps_ret pe_bl)))), ?_⟩
  have e1 : (refL rs).length = (refL qs).length := by rw [refs_len, refs_len, hR.len, hQ.len]
  refine ⟨_, rfl, _, _, _, _, rfl, .lst ha, rfl, _, rfl, iteF ?_⟩
  refine ⟨_, rfl, a, _, rfl, .inl (SqL.of ha), _, rfl, b, _, rfl, .inl (SqL.of hb), rfl, _, rfl, iteNS (by rw [e1]) ?_⟩
  refine ⟨_, rfl, b, _, rfl, .inl (SqL.of hb), _, rfl, by omega, by rw [refs_len, hQ.len]; omega, ?_⟩
  refine for_range0 (fun i σ' H' => (∃ p, σ' = [some (.ref a), some (.ref b), p]) ∧ H' = H) ⟨⟨_, rfl⟩, rfl⟩ ?_ ?_
  · rintro i σ' H' hi ⟨⟨p, rfl⟩, rfl⟩
    have hi' : i < xss.length := by rw [refs_len, hQ.len] at hi; omega
    obtain ⟨r, er, hr'⟩ := hR.get (List.getElem?_eq_getElem hi')
    obtain ⟨r2, er2, hr2⟩ := hQ.get (List.getElem?_eq_getElem hi')
    exact ⟨_, rfl, _, rfl, a, _, _, _, rfl, rfl, SqL.of ha, atI_refs er, _, rfl, _, rfl, b, _, _, _, rfl, rfl, SqL.of hb, atI_refs er2, r, r2, _, rfl, hr', hr2, hz2 _ (List.getElem_mem hi'), _, rfl, iteF ⟨⟨_, rfl⟩, rfl⟩⟩
  · rintro σ' H' ⟨⟨p, rfl⟩, rfl⟩
    exact q

def spCopy (K : PySem.W.Frag) : Sp := fun vs H Q _ => ∃ (a : Addr) (rs : List Addr) (xss : List (List Int)), vs = [.ref a] ∧ SqL K H a (refL rs) ∧ Rows H rs xss ∧ xss.length ≤ 1000 ∧
  ∀ H' L qs, Same H H' → H' L = some (.lst (refL qs)) → Rows H' qs xss → H L = none → (∀ r ∈ qs, H r = none) → L ∉ qs → Q (.ref L) H'
theorem ok__law_copy (bi : BI mg) {ca : CA} (ck : CK K mg ca)
    {f : Addr} {fd : FuncData} (F : Fun K "_law_copy" "_law_copy" s__law_copy f fd) : FnOk P w K mg base CX0 2 f fd ["_law_rows"] (spCopy K) := by
  refine F.ok sc__law_copy (fun vs H Q E h => ?_) (fun cdv A outer s H vs Q E hr h => ?_)
  · obtain ⟨a, rs, xss, rfl, _⟩ := h
    rfl
  obtain ⟨a, rs, xss, rfl, hS, hR, hz, q⟩ := h
  refine ⟨_, (pss_one (ps_ret (pe_comp (blk_mk (own := ["_law_row"]) (caps := []) (js := []) rfl (by decide +kernel) (by decide +kernel) rfl trivial) rfl (pi_listK (K := K) rfl (pv 0)) (fun _ _ _ _ => (pg_name (i := 0) (show (["_law_row"] : List Str).Nodup by decide +kernel) rfl (Or.inl rfl))) (fun _ _ _ _ => pif_nil) (fun _ _ _ _ => (pe_callTy (call_list_ofK (K := K) rfl) rfl bi.list BootN.list (pa_cons (pv 0) pa_nil)))))), ?_⟩
  refine ⟨_, rfl, a, rfl, ⟨_, hS⟩, ?_⟩
  exact copy_rows hS hR hz fun H' L qs sm hL hQ hL0 hq0 hLq _ => q H' L qs sm hL hQ hL0 hq0 hLq

theorem range_vsub {xs ys : List Int} (h : xs.length = ys.length) : (List.range xs.length).map (fun i => xs.getD i 0 - ys.getD i 0) = vsub xs ys := by
  refine ext_at (by rw [List.length_map, List.length_range, vsub_len h]) fun j => ?_
  rw [at_vsub h]
  by_cases hj : j < xs.length
  · rw [List.getD_eq_getElem?_getD, List.getElem?_map, List.getElem?_range hj]; rfl
  · rw [List.getD_eq_getElem?_getD, List.getElem?_eq_none (by simp; omega), List.getD_eq_getElem?_getD, List.getElem?_eq_none (by omega), List.getD_eq_getElem?_getD, List.getElem?_eq_none (by omega)]; rfl
theorem ok__law_less (bi : BI mg) {ca : CA} (ck : CK K mg ca)
    {f : Addr} {fd : FuncData} (F : Fun K "_law_less" "_law_less" s__law_less f fd) : FnOk P w K mg base CX0 2 f fd ["_law_one", "_law_other"] (spLess K) := by
  refine F.ok sc__law_less (fun vs H Q E h => ?_) (fun cdv A outer s H vs Q E hr h => ?_)
  · obtain ⟨a, b, xs, ys, rfl, _⟩ := h
    rfl
  obtain ⟨a, b, xs, ys, rfl, hx, hy, hl, hz, q⟩ := h
  refine ⟨_, (pss_one (ps_ret (pe_comp (blk_mk (own := ["_law_j"]) (caps := ["_law_one", "_law_other"]) (js := [0, 1]) rfl (by decide +kernel) (by decide +kernel) rfl ⟨⟨rfl, rfl, .inr (.inl rfl)⟩, ⟨⟨rfl, rfl, .inr (.inl rfl)⟩, trivial⟩⟩) rfl (pi_range1 rfl bi.range (pa_cons (pe_callB (call_len_seqK (K := K) rfl) rfl bi.len PySem.boot_len (pa_cons (pv 0) pa_nil)) pa_nil)) (fun _ _ _ _ => (pg_name (i := 0) (show (["_law_j", "_law_one", "_law_other"] : List Str).Nodup by decide +kernel) rfl (Or.inl rfl))) (fun _ _ _ _ => pif_nil) (fun _ _ _ _ => (pe_op op_sub (pe_ix (ix_listK (K := K) rfl) (pv 1) (pv 0) (fun _ _ => rfl)) (pe_ix (ix_listK (K := K) rfl) (pv 2) (pv 0) (fun _ _ => rfl))))))), ?_⟩
  refine ⟨_, rfl, a, _, rfl, .inl hx, _, rfl, by omega, by rw [ints_len]; omega, ?_⟩
  have en : (((intL xs).length : Nat) : Int).toNat = xs.length := by rw [ints_len]; omega
  refine comp_range_ints (n := (((intL xs).length : Nat) : Int).toNat) (f := fun i => xs.getD i 0 - ys.getD i 0) (by rw [en]; exact small hz) ?_ ?_
  · intro i H' Kx hi sm k
    rw [en] at hi
    exact ⟨_, rfl, _, rfl, a, _, _, _, rfl, rfl, sm.seq hx, atI_ints hi, _, rfl, _, rfl, b, _, _, _, rfl, rfl, sm.seq hy, atI_ints (by omega), _, _, rfl, rfl, k _ (Same.refl _)⟩
  intro D H' hD sm e
  rw [en, range_vsub hl] at e
  exact q H' D sm hD e

theorem range_vadd {xs ys : List Int} (h : xs.length = ys.length) : (List.range xs.length).map (fun i => xs.getD i 0 + ys.getD i 0) = vadd xs ys := by
  refine ext_at (by rw [List.length_map, List.length_range, vadd_len h]) fun j => ?_
  rw [at_vadd h]
  by_cases hj : j < xs.length
  · rw [List.getD_eq_getElem?_getD, List.getElem?_map, List.getElem?_range hj]; rfl
  · rw [List.getD_eq_getElem?_getD, List.getElem?_eq_none (by simp; omega), List.getD_eq_getElem?_getD, List.getElem?_eq_none (by omega), List.getD_eq_getElem?_getD, List.getElem?_eq_none (by omega)]; rfl
theorem ok__law_more (bi : BI mg) {ca : CA} (ck : CK K mg ca)
    {f : Addr} {fd : FuncData} (F : Fun K "_law_more" "_law_more" s__law_more f fd) : FnOk P w K mg base CX0 2 f fd ["_law_one", "_law_other"] (spMore K) := by
  refine F.ok sc__law_more (fun vs H Q E h => ?_) (fun cdv A outer s H vs Q E hr h => ?_)
  · obtain ⟨a, b, xs, ys, rfl, _⟩ := h
    rfl
  obtain ⟨a, b, xs, ys, rfl, hx, hy, hl, hz, q⟩ := h
  refine ⟨_, (pss_one (ps_ret (pe_comp (blk_mk (own := ["_law_j"]) (caps := ["_law_one", "_law_other"]) (js := [0, 1]) rfl (by decide +kernel) (by decide +kernel) rfl ⟨⟨rfl, rfl, .inr (.inl rfl)⟩, ⟨⟨rfl, rfl, .inr (.inl rfl)⟩, trivial⟩⟩) rfl (pi_range1 rfl bi.range (pa_cons (pe_callB (call_len_seqK (K := K) rfl) rfl bi.len PySem.boot_len (pa_cons (pv 0) pa_nil)) pa_nil)) (fun _ _ _ _ => (pg_name (i := 0) (show (["_law_j", "_law_one", "_law_other"] : List Str).Nodup by decide +kernel) rfl (Or.inl rfl))) (fun _ _ _ _ => pif_nil) (fun _ _ _ _ => (pe_op op_add (pe_ix (ix_listK (K := K) rfl) (pv 1) (pv 0) (fun _ _ => rfl)) (pe_ix (ix_listK (K := K) rfl) (pv 2) (pv 0) (fun _ _ => rfl))))))), ?_⟩
  refine ⟨_, rfl, a, _, rfl, .inl hx, _, rfl, by omega, by rw [ints_len]; omega, ?_⟩
  have en : (((intL xs).length : Nat) : Int).toNat = xs.length := by rw [ints_len]; omega
  refine comp_range_ints (n := (((intL xs).length : Nat) : Int).toNat) (f := fun i => xs.getD i 0 + ys.getD i 0) (by rw [en]; exact small hz) ?_ ?_
  · intro i H' Kx hi sm k
    rw [en] at hi
    exact ⟨_, rfl, _, rfl, a, _, _, _, rfl, rfl, sm.seq hx, atI_ints hi, _, rfl, _, rfl, b, _, _, _, rfl, rfl, sm.seq hy, atI_ints (by omega), _, _, rfl, rfl, k _ (Same.refl _)⟩
  intro D H' hD sm e
  rw [en, range_vadd hl] at e
  exact q H' D sm hD e

theorem ok__law_free (bi : BI mg) {ca : CA} (ck : CK K mg ca)
    (c__law_less : Callee P w K mg base "_law_less" 2 ["_law_one", "_law_other"] (spLess K))
    {f : Addr} {fd : FuncData} (F : Fun K "_law_free" "_law_free" s__law_free f fd) : FnOk P w K mg base CX0 3 f fd ["_law_stock", "_law_loans"] (spFree K) := by
  refine F.ok sc__law_free (fun vs H Q E h => ?_) (fun cdv A outer s H vs Q E hr h => ?_)
  · obtain ⟨a, b, st, rs, xss, rfl, _⟩ := h
    rfl
  obtain ⟨a, b, st, rs, xss, rfl, hx, hy, hR, hln, hz, q⟩ := h
  refine ⟨_, (pss_cons (ps_set (i := 2) sc__law_free.nd rfl (Or.inl rfl) (pe_callTy (call_list_ofK (K := K) rfl) rfl bi.list BootN.list (pa_cons (pv 0) pa_nil))) (pss_cons (ps_for PassesOwn.never rfl (pi_listK (K := K) rfl (pv 1)) (pg_name (i := 3) sc__law_free.nd rfl (Or.inl rfl)) (pss_one (ps_set (i := 2) sc__law_free.nd rfl (Or.inl rfl) (pe_calln c__law_less hr (by decide) rfl (pa_cons (pv 2) (pa_cons (pv 3) pa_nil)))))) (pss_one (ps_ret (pv 2))))), ?_⟩
  refine ⟨_, rfl, a, _, rfl, .inl hx, fun L hL => ?_⟩
  have s1 := same_new hL (.lst (intL st))
  refine ⟨_, rfl, b, rfl, ⟨_, s1.seq hy⟩, ?_⟩
  refine for_list (xs := refL rs) (fun i σ' H' => ∃ f p, σ' = [some (.ref a), some (.ref b), some (.ref f), p] ∧ Same H H' ∧ H f = none ∧ H' f = some (.lst (intL ((xss.take i).foldl vsub st))))
    ⟨L, none, rfl, s1, hL, upd_same⟩ (fun i σ' H' _ ⟨f, p, _, sm, _⟩ => sm.seq hy) ?_ ?_
  · rintro i x σ' H' hx' ⟨f, p, rfl, sm, hf, hf'⟩
    rw [List.getElem?_map] at hx'
    cases e : rs[i]? with
    | none => rw [e] at hx'; cases hx'
    | some r =>
      rw [e] at hx'
      cases hx'
      obtain ⟨x, ex, hr'⟩ := hR.getr e
      have hxm : x ∈ xss := List.mem_of_getElem? ex
      have hfl : ((xss.take i).foldl vsub st).length = st.length := subAll_len (fun y hy => hln y (List.mem_of_mem_take hy)) rfl
      refine ⟨_, rfl, _, rfl, f, r, _, x, rfl, SqL.of hf', SqL.of (sm _ _ hr'), by rw [hfl, hln x hxm], by omega, fun H2 L2 s2 h2 e2 => ?_⟩
      refine ⟨L2, _, rfl, sm.trans s2, sm.free h2, ?_⟩
      rw [List.take_add_one, ex]
      show H2 L2 = some (.lst (intL ((xss.take i ++ [x]).foldl vsub st)))
      rw [foldl_snoc]
      exact e2
  · rintro σ' H' ⟨f, p, rfl, sm, hf, hf'⟩
    refine ⟨_, rfl, ?_⟩
    rw [refs_len, hR.len, List.take_of_length_le (Nat.le_refl _)] at hf'
    exact q H' f sm hf hf'

theorem within_fits {xs ys : List Int} (h : xs.length = ys.length) : (((List.range xs.length).filter fun i => decide (ys.getD i 0 < xs.getD i 0)).map fun k : Nat => V.int (k : Int)).isEmpty = fitsM xs ys := by
  rw [Bool.eq_iff_iff, fits_iff h, List.isEmpty_iff, List.map_eq_nil_iff, List.filter_eq_nil_iff]
  refine ⟨fun z j => ?_, fun z j _ => ?_⟩
  · by_cases hj : j < xs.length
    · have := z j (List.mem_range.mpr hj)
      simp at this
      simpa using this
    · rw [List.getD_eq_getElem?_getD, List.getElem?_eq_none (by omega), List.getD_eq_getElem?_getD, List.getElem?_eq_none (by omega)]
      exact Int.le_refl _
  · have := z j
    simp
    simpa using this
def spWithin (K : PySem.W.Frag) : Sp := fun vs H Q _ => ∃ (a b : Addr) (xs ys : List Int), vs = [.ref a, .ref b] ∧ SqL K H a (intL xs) ∧ SqL K H b (intL ys) ∧ xs.length = ys.length ∧ xs.length ≤ 1000 ∧ ∀ H', Same H H' → Q (.bl (fitsM xs ys)) H'
theorem ok__law_within (bi : BI mg) {ca : CA} (ck : CK K mg ca)
    {f : Addr} {fd : FuncData} (F : Fun K "_law_within" "_law_within" s__law_within f fd) : FnOk P w K mg base CX0 2 f fd ["_law_one", "_law_other"] (spWithin K) := by
  refine F.ok sc__law_within (fun vs H Q E h => ?_) (fun cdv A outer s H vs Q E hr h => ?_)
  · obtain ⟨a, b, xs, ys, rfl, _⟩ := h
    rfl
  obtain ⟨a, b, xs, ys, rfl, hx, hy, hl, hz, q⟩ := h
  refine ⟨_, (pss_one (ps_ret (pe_cmpR (op_eqNil (K := K) rfl hr.below) (pe_comp (blk_mk (own := ["_law_j"]) (caps := ["_law_one", "_law_other"]) (js := [0, 1]) rfl (by decide +kernel) (by decide +kernel) rfl ⟨⟨rfl, rfl, .inr (.inl rfl)⟩, ⟨⟨rfl, rfl, .inr (.inl rfl)⟩, trivial⟩⟩) rfl (pi_range1 rfl bi.range (pa_cons (pe_callB (call_len_seqK (K := K) rfl) rfl bi.len PySem.boot_len (pa_cons (pv 0) pa_nil)) pa_nil)) (fun _ _ _ _ => (pg_name (i := 0) (show (["_law_j", "_law_one", "_law_other"] : List Str).Nodup by decide +kernel) rfl (Or.inl rfl))) (fun _ _ _ _ => (pif_one (pt_cmpR op_gt (pe_ix (ix_listK (K := K) rfl) (pv 1) (pv 0) (fun _ _ => rfl)) (pe_ix (ix_listK (K := K) rfl) (pv 2) (pv 0) (fun _ _ => rfl)) (nomark _)))) (fun _ _ _ _ => (pv 0))) (pe_lst pa_nil) (nomark _)))), ?_⟩
  refine ⟨_, rfl, a, _, rfl, .inl hx, _, rfl, by omega, by rw [ints_len]; omega, ?_⟩
  have en : (((intL xs).length : Nat) : Int).toNat = xs.length := by rw [ints_len]; omega
  refine comp_filter_range (n := (((intL xs).length : Nat) : Int).toNat) (p := fun i => decide (ys.getD i 0 < xs.getD i 0)) (by rw [en]; exact small hz) ?_ ?_
  · intro i H' Kf hi sm k
    rw [en] at hi
    exact ⟨_, rfl, _, rfl, a, _, _, _, rfl, rfl, sm.seq hx, atI_ints hi, _, rfl, _, rfl, b, _, _, _, rfl, rfl, sm.seq hy, atI_ints (by omega), _, _, rfl, rfl, _, rfl, k⟩
  intro D H1 hD s1 hDs
  rw [en] at hDs
  refine ⟨(by show 0 ≤ sizeLine; decide), fun N hN => ?_⟩
  have s2 := same_new hN (.lst [])
  refine ⟨D, N, _, rfl, rfl, SqL.of (s2 _ _ hDs), SqL.of upd_same, ?_⟩
  have e := within_fits hl
  dsimp only
  show Q (.bl (List.isEmpty _)) _
  rw [e]
  exact q _ (s1.trans s2)

theorem pickB (x y : V) (k : Bool) : atI [x, y] (if k then 1 else 0) = some (if k then y else x) := by cases k <;> rfl
theorem cut_take (rs : List Addr) (k : Nat) (h : k ≤ rs.length) : cutV (refL rs) none (some (k : Int)) = refL (rs.take k) := by
  unfold cutV
  rw [HT.sIx_none, HT.sIx_nat, refs_len, Nat.min_eq_left h, List.drop_zero, Nat.sub_zero]
  show List.take k (List.map V.ref rs) = List.map V.ref (List.take k rs)
  rw [List.map_take]
theorem cut_drop (rs : List Addr) (k : Nat) (h : k ≤ rs.length) : cutV (refL rs) (some (k : Int)) none = refL (rs.drop k) := by
  unfold cutV
  rw [HT.sIx_none, HT.sIx_nat, refs_len, Nat.min_eq_left h, ← List.map_drop, List.take_of_length_le]
  rw [refs_len, List.length_drop]
  exact Nat.le_refl _
theorem cut_set (rs : List Addr) (k : Nat) (M : Addr) (h : k < rs.length) : cutV (refL rs) none (some (k : Int)) ++ [.ref M] ++ cutV (refL rs) (some ((k : Int) + 1)) none = refL (rs.set k M) := by
  have e : ((k : Int) + 1) = ((k + 1 : Nat) : Int) := by omega
  rw [cut_take rs k (by omega), e, cut_drop rs (k + 1) (by omega), refs_snoc, ← List.map_append, List.set_eq_take_append_cons_drop, if_pos h]
  simp
theorem filter_neg {am : List Int} : (intL (am.filter fun x => decide (x < 0))).isEmpty = !am.any (fun x => decide (x < 0)) := by
  induction am with
  | nil => rfl
  | cons x r ih =>
    rw [List.filter_cons, List.any_cons]
    by_cases h : x < 0
    · rw [if_pos (decide_eq_true h), decide_eq_true h]; rfl
    · rw [if_neg (by simpa using h), decide_eq_false h, ih]; rfl

def spGreedy (K : PySem.W.Frag) : Sp := fun vs H Q _ => ∃ (a b c : Addr) (st : List Int) (cs rs : List Addr) (css xss : List (List Int)), vs = [.ref a, .ref b, .ref c] ∧ SqL K H a (intL st) ∧ SqL K H b (refL cs) ∧ Rows H cs css ∧ SqL K H c (refL rs) ∧ Rows H rs xss ∧ Gd st css xss ∧ st.length ≤ 1000 ∧ xss.length ≤ 1000 ∧
  ∀ H' L o, Same H H' → H L = none → H' L = some (.lst (natL o)) → Orde xss.length (restsM css xss) xss (freeM st xss) o → (o.length < xss.length ↔ ¬ SafeM st css xss) → Q (.ref L) H'
def Stuck (n : Nat) (rs xss : List (List Int)) (f : List Int) (o : List Nat) : Prop := ∀ w, w < n → w ∉ o → fitsM (rs.getD w []) (growM xss f o) = false
theorem ok__law_greedy (bi : BI mg) {ca : CA} (ck : CK K mg ca)
    (c__law_free : Callee P w K mg base "_law_free" 3 ["_law_stock", "_law_loans"] (spFree K))
    (c__law_less : Callee P w K mg base "_law_less" 2 ["_law_one", "_law_other"] (spLess K))
    (c__law_within : Callee P w K mg base "_law_within" 2 ["_law_one", "_law_other"] (spWithin K))
    (c__law_more : Callee P w K mg base "_law_more" 2 ["_law_one", "_law_other"] (spMore K))
    {f : Addr} {fd : FuncData} (F : Fun K "_law_greedy" "_law_greedy" s__law_greedy f fd) : FnOk P w K mg base CX0 4 f fd ["_law_stock", "_law_claims", "_law_loans"] (spGreedy K) := by
  refine F.ok sc__law_greedy (fun vs H Q E h => ?_) (fun cdv A outer s H vs Q E hr h => ?_)
  · obtain ⟨a, b, c, st, cs, rs, css, xss, rfl, _⟩ := h
    rfl
  obtain ⟨a, b, c, st, cs, rs, css, xss, rfl, ha, hb, hC, hc, hR, G, hz, hz2, q⟩ := h
  have Y := G.yd
  have hxl : ∀ w, w < xss.length → (xss.getD w []).length = st.length := fun w h => Y.xlen h
  have hfl := G.free
  refine ⟨_, (pss_cons (ps_set (i := 3) sc__law_greedy.nd rfl (Or.inl rfl) (pe_calln c__law_free hr (by decide) rfl (pa_cons (pv 0) (pa_cons (pv 2) pa_nil)))) (pss_cons (ps_set (i := 4) sc__law_greedy.nd rfl (Or.inl rfl) (pe_lst pa_nil)) (pss_cons (ps_for PassesOwn.never rfl (pi_range1 rfl bi.range (pa_cons (pe_callB (call_len_seqK (K := K) rfl) rfl bi.len PySem.boot_len (pa_cons (pv 1) pa_nil)) pa_nil)) (pg_name (i := 5) sc__law_greedy.nd rfl (Or.inl rfl)) (pss_cons (ps_for PassesOwn.never rfl (pi_range1 rfl bi.range (pa_cons (pe_callB (call_len_seqK (K := K) rfl) rfl bi.len PySem.boot_len (pa_cons (pv 1) pa_nil)) pa_nil)) (pg_name (i := 6) sc__law_greedy.nd rfl (Or.inl rfl)) (pss_cons (ps_set (i := 7) sc__law_greedy.nd rfl (Or.inl rfl) (pe_calln c__law_less hr (by decide) rfl (pa_cons (pe_ix (ix_listK (K := K) rfl) (pv 1) (pv 6) (fun _ _ => rfl)) (pa_cons (pe_ix (ix_listK (K := K) rfl) (pv 2) (pv 6) (fun _ _ => rfl)) pa_nil)))) (pss_one (ps_if (PW.pt (pw_and (pt_cmpR (op_notIn_seqK (K := K) rfl) (pv 6) (pv 4) (by with_unfolding_all rfl)) (pw_and1 (pt_val (pe_calln c__law_within hr (by decide) rfl (pa_cons (pv 7) (pa_cons (pv 3) pa_nil))))))) (pss_cons (ps_expr (pe_appendK (K := K) rfl (pv 4) (pa_cons (pv 6) pa_nil))) (pss_one (ps_set (i := 3) sc__law_greedy.nd rfl (Or.inl rfl) (pe_calln c__law_more hr (by decide) rfl (pa_cons (pv 3) (pa_cons (pe_ix (ix_listK (K := K) rfl) (pv 2) (pv 6) (fun _ _ => rfl)) pa_nil)))))) pss_nil)))) (pss_one (ps_if (pt_cmpR op_eq (pe_callB (call_len_seqK (K := K) rfl) rfl bi.len PySem.boot_len (pa_cons (pv 4) pa_nil)) (pe_callB (call_len_seqK (K := K) rfl) rfl bi.len PySem.boot_len (pa_cons (pv 1) pa_nil)) (nomark _)) (pss_one (ps_ret (pv 4))) pss_nil)))) (pss_one (ps_ret (pv 4)))))), ?_⟩
  refine ⟨_, rfl, _, rfl, a, c, st, rs, xss, rfl, ha, hc, hR, G.rx, hz, fun H1 f s1 hf0 hf => ?_⟩
  refine ⟨(by show 0 ≤ sizeLine; decide), fun O hO => ?_⟩
  have sO := same_new hO (.lst [])
  have hO0 : H O = none := s1.free hO
  have hfO : f ≠ O := fun e => by rw [e] at hf; rw [hf] at hO; cases hO
  have hcl : (((refL cs).length : Nat) : Int) = ((xss.length : Nat) : Int) := by rw [refs_len, hC.len, G.lc]
  refine ⟨_, rfl, b, _, rfl, .inl ((s1.trans sO).seq hb), _, rfl, by omega, by omega, ?_⟩
  refine for_range0 (fun t σ' H' => ∃ f' p5 p6 p7 o, σ' = [some (.ref a), some (.ref b), some (.ref c), some (.ref f'), some (.ref O), p5, p6, p7] ∧ Same H H' ∧ f' ≠ O ∧ H' O = some (.lst (natL o)) ∧ H' f' = some (.lst (intL (growM xss (freeM st xss) o))) ∧ Orde xss.length (restsM css xss) xss (freeM st xss) o ∧
      (Stuck xss.length (restsM css xss) xss (freeM st xss) o ∨ t ≤ o.length))
    ⟨f, none, none, none, [], rfl, s1.trans sO, hfO, upd_same, sO _ _ hf, ⟨by simp, by simp, trivial⟩, .inr (Nat.zero_le _)⟩ ?_ ?_
  · rintro t σ' H' ht ⟨f', p5, p6, p7, o0, rfl, sm, hfO', h_O, h_f, Od, hst⟩
    refine ⟨_, rfl, b, _, rfl, .inl (sm.seq hb), _, rfl, by omega, by omega, ?_⟩
    refine for_range0 (fun k σ2 H2 => ∃ f2 p6 p7 o, σ2 = [some (.ref a), some (.ref b), some (.ref c), some (.ref f2), some (.ref O), some (.int (t : Int)), p6, p7] ∧ Same H H2 ∧ f2 ≠ O ∧ H2 O = some (.lst (natL o)) ∧ H2 f2 = some (.lst (intL (growM xss (freeM st xss) o))) ∧ Orde xss.length (restsM css xss) xss (freeM st xss) o ∧
        ((o = o0 ∧ ∀ w, w < k → w ∉ o → fitsM ((restsM css xss).getD w []) (growM xss (freeM st xss) o) = false) ∨ (o0.length < o.length ∧ ¬ Stuck xss.length (restsM css xss) xss (freeM st xss) o0)))
      ⟨f', p6, p7, o0, rfl, sm, hfO', h_O, h_f, Od, .inl ⟨rfl, fun w hw => absurd hw (Nat.not_lt_zero _)⟩⟩ ?_ ?_
    · rintro k σ2 H2 hk ⟨f2, p6, p7, o, rfl, s2, hf2, h_O2, h_f2, Od2, hin⟩
      have hk' : k < xss.length := by omega
      have hol : o.length ≤ xss.length := len_le Od2.nd Od2.lt
      have hgl : (growM xss (freeM st xss) o).length = st.length := grow_len hxl hfl Od2.lt
      have hxe : xss[k]? = some (xss.getD k []) := by rw [List.getD_eq_getElem?_getD, List.getElem?_eq_getElem hk']; rfl
      have hce : css[k]? = some (css.getD k []) := by rw [List.getD_eq_getElem?_getD, List.getElem?_eq_getElem (by rw [G.lc]; exact hk')]; rfl
      obtain ⟨r, er, hr'⟩ := hR.get hxe
      obtain ⟨r2, er2, hr2⟩ := hC.get hce
      have hlc : (css.getD k []).length = st.length := G.rc _ (row_mem (by rw [G.lc]; exact hk'))
      have hlx := hxl k hk'
      refine ⟨_, rfl, _, rfl, b, _, _, _, rfl, rfl, s2.seq hb, atI_refs er2, _, rfl, _, rfl, c, _, _, _, rfl, rfl, s2.seq hc, atI_refs er, r2, r, _, _, rfl, SqL.of (s2 _ _ hr2), SqL.of (s2 _ _ hr'), by omega, by omega, fun H3 M s3 hM0 hM => ?_⟩
      have hMO : M ≠ O := fun e => by rw [e, h_O2] at hM0; cases hM0
      rw [← rests_at G.lc hk'] at hM
      have h_O3 := s3 _ _ h_O2
      refine ⟨_, rfl, _, rfl, O, _, rfl, .inl (SqL.of h_O3), rfl, nats_flat _, _, rfl, ?_⟩
      dsimp only
      rw [nats_in]
      by_cases ck1 : k ∈ o
      · rw [decide_eq_true ck1]
        refine iteF ?_
        refine iteF ⟨f2, _, _, o, rfl, s2.trans s3, hf2, h_O3, s3 _ _ h_f2, Od2, ?_⟩
        rcases hin with ⟨e, hw⟩ | z
        · refine .inl ⟨e, fun w hw1 hw2 => ?_⟩
          by_cases e : w = k
          · exact absurd ck1 (e ▸ hw2)
          · exact hw w (by omega) hw2
        · exact .inr z
      rw [decide_eq_false ck1]
      refine iteT ?_
      refine ⟨_, rfl, _, rfl, M, f2, _, _, rfl, SqL.of hM, SqL.of (s3 _ _ h_f2), by rw [Y.rlen hk', hgl], by rw [Y.rlen hk']; omega, fun H4 s4 => ⟨_, rfl, ?_⟩⟩
      have s24 := s2.trans (s3.trans s4)
      have h_O4 := s4 _ _ h_O3
      by_cases c3 : fitsM ((restsM css xss).getD k []) (growM xss (freeM st xss) o) = true
      · rw [c3]
        refine iteT ?_
        refine ⟨_, rfl, .inl ⟨rfl, _, SqL.of h_O4⟩, _, rfl, O, _, _, rfl, rfl, h_O4, (by rw [nats_len]; exact small1000 (by omega)), ?_⟩
        have h_f5 : upd H4 O (.lst (natL o ++ [.int (k : Int)])) f2 = some (.lst (intL (growM xss (freeM st xss) o))) := by rw [upd_ne hf2]; exact s4 _ _ (s3 _ _ h_f2)
        have s5 : Same H (upd H4 O (.lst (natL o ++ [.int (k : Int)]))) := same_upd s24 hO0
        refine ⟨_, rfl, _, rfl, _, rfl, c, _, _, _, rfl, rfl, s5.seq hc, atI_refs er, f2, r, _, _, rfl, SqL.of h_f5, SqL.of (s5 _ _ hr'), by omega, by omega, fun H6 f3 s6 hf30 hf3 => ?_⟩
        refine ⟨f3, _, _, o ++ [k], rfl, s5.trans s6, (fun e => by rw [e, upd_same] at hf30; cases hf30), by rw [s6 _ _ upd_same, nats_snoc], by rw [grow_append]; exact hf3, ⟨?_, ?_, ?_⟩, .inr ⟨?_, ?_⟩⟩
        · rw [List.nodup_append]
          exact ⟨Od2.nd, by simp, fun x hx y hy e => ck1 (by rw [List.mem_singleton.mp hy] at e; exact e ▸ hx)⟩
        · intro w hw
          rcases List.mem_append.mp hw with z | z
          · exact Od2.lt w z
          · rw [List.mem_singleton.mp z]; exact hk'
        · rw [walk_append]
          exact ⟨Od2.wk, c3, trivial⟩
        · rw [List.length_append]
          rcases hin with ⟨e, _⟩ | ⟨z, _⟩
          · rw [e]; simp
          · simp; omega
        · rcases hin with ⟨e, _⟩ | ⟨_, z⟩
          · intro z
            have := z k hk' (e ▸ ck1)
            rw [← e, c3] at this
            cases this
          · exact z
      · rw [Bool.eq_false_iff.mpr c3]
        refine iteF ⟨f2, _, _, o, rfl, s24, hf2, h_O4, s4 _ _ (s3 _ _ h_f2), Od2, ?_⟩
        rcases hin with ⟨e, hw⟩ | z
        · refine .inl ⟨e, fun w hw1 hw2 => ?_⟩
          by_cases e : w = k
          · rw [e]; exact Bool.eq_false_iff.mpr c3
          · exact hw w (by omega) hw2
        · exact .inr z
    · rintro σ2 H2 ⟨f2, p6, p7, o, rfl, s2, hf2, h_O2, h_f2, Od2, hin⟩
      rw [hcl, Int.toNat_natCast] at hin
      have hnext : Stuck xss.length (restsM css xss) xss (freeM st xss) o ∨ t + 1 ≤ o.length := by
        rcases hin with ⟨_, hw⟩ | ⟨z1, z2⟩
        · exact .inl hw
        · rcases hst with y | y
          · exact absurd y z2
          · exact .inr (by omega)
      refine ⟨_, rfl, O, _, rfl, .inl (SqL.of h_O2), _, rfl, b, _, rfl, .inl (s2.seq hb), rfl, _, rfl, ite2 (fun cq => ?_) (fun cq => ?_)⟩
      · rw [dec_int, beq_iff_eq, nats_len, hcl] at cq
        refine ⟨_, rfl, q H2 O o s2 hO0 h_O2 Od2 (greedy_safe Y hfl Od2 (.inl (by omega)))⟩
      · exact ⟨f2, _, _, _, o, rfl, s2, hf2, h_O2, h_f2, Od2, hnext⟩
  · rintro σ' H' ⟨f', p5, p6, p7, o, rfl, sm, hfO', h_O, h_f, Od, hst⟩
    rw [hcl, Int.toNat_natCast] at hst
    exact ⟨_, rfl, q H' O o sm hO0 h_O Od (greedy_safe Y hfl Od hst.symm)⟩

def spJudge (K : PySem.W.Frag) : Sp := fun vs H Q _ => ∃ (a b c e : Addr) (st : List Int) (cs rs : List Addr) (css xss : List (List Int)) (d : Deed), vs = [.ref a, .ref b, .ref c, .ref e] ∧ SqL K H a (intL st) ∧ SqL K H b (refL cs) ∧ Rows H cs css ∧ SqL K H c (refL rs) ∧ Rows H rs xss ∧ DeedAt H e d ∧
  Gd st css xss ∧ d.am.length = st.length ∧ st.length ≤ 1000 ∧ xss.length ≤ 1000 ∧ ∀ H', Same H H' → Q (.str (stepM st css xss d).1) H'
theorem ok__law_judged (bi : BI mg) {ca : CA} (ck : CK K mg ca)
    (c__law_within : Callee P w K mg base "_law_within" 2 ["_law_one", "_law_other"] (spWithin K))
    (c__law_more : Callee P w K mg base "_law_more" 2 ["_law_one", "_law_other"] (spMore K))
    (c__law_free : Callee P w K mg base "_law_free" 3 ["_law_stock", "_law_loans"] (spFree K))
    (c__law_greedy : Callee P w K mg base "_law_greedy" 4 ["_law_stock", "_law_claims", "_law_loans"] (spGreedy K))
    {f : Addr} {fd : FuncData} (F : Fun K "_law_judged" "_law_judged" s__law_judged f fd) : FnOk P w K mg base CX0 5 f fd ["_law_stock", "_law_claims", "_law_loans", "_law_deed"] (spJudge K) := by
  refine F.ok sc__law_judged (fun vs H Q E h => ?_) (fun cdv A outer s H vs Q E hr h => ?_)
  · obtain ⟨a, b, c, e, st, cs, rs, css, xss, d, rfl, _⟩ := h
    rfl
  obtain ⟨a, b, c, e, st, cs, rs, css, xss, d, rfl, ha, hb, hC, hc, hR, ⟨g, he, hg⟩, G, hal, hz, hz2, q⟩ := h
  refine ⟨_, (pss_cons (ps_if (PW.pt (pw_or (pt_cmpR op_lt (pe_ix (ix_tupK (K := K) rfl) (pv 3) pe_int (fun _ _ => rfl)) pe_int (nomark _)) (pw_or1 (pt_cmpR op_ge (pe_ix (ix_tupK (K := K) rfl) (pv 3) pe_int (fun _ _ => rfl)) (pe_callB (call_len_seqK (K := K) rfl) rfl bi.len PySem.boot_len (pa_cons (pv 1) pa_nil)) (nomark _))))) (pss_one (ps_ret pe_str)) pss_nil) (pss_cons (ps_if (pt_cmpR (op_neNil (K := K) rfl hr.below) (pe_comp (blk_mk (own := ["_law_one"]) (caps := []) (js := []) rfl (by decide +kernel) (by decide +kernel) rfl trivial) rfl (pi_listK (K := K) rfl (pe_ix (ix_tupK (K := K) rfl) (pv 3) pe_int (fun _ _ => rfl))) (fun _ _ _ _ => (pg_name (i := 0) (show (["_law_one"] : List Str).Nodup by decide +kernel) rfl (Or.inl rfl))) (fun _ _ _ _ => (pif_one (pt_cmpR op_lt (pv 0) pe_int (nomark _)))) (fun _ _ _ _ => (pv 0))) (pe_lst pa_nil) (nomark _)) (pss_one (ps_ret pe_str)) pss_nil) (pss_cons (ps_set (i := 4) sc__law_judged.nd rfl (Or.inl rfl) (pe_ix (ix_listK (K := K) rfl) (pv 2) (pe_ix (ix_tupK (K := K) rfl) (pv 3) pe_int (fun _ _ => rfl)) (fun _ _ => rfl))) (pss_cons (ps_if (pt_cmpR op_eq (pe_ix (ix_tupK (K := K) rfl) (pv 3) pe_int (fun _ _ => rfl)) pe_str (nomark _)) (pss_one (ps_ret (pe_ix (ix_listK (K := K) rfl) (pe_lst (pa_cons pe_str (pa_cons pe_str pa_nil))) (pe_callTy call_int1 rfl bi.int BootN.int (pa_cons (pe_calln c__law_within hr (by decide) rfl (pa_cons (pe_ix (ix_tupK (K := K) rfl) (pv 3) pe_int (fun _ _ => rfl)) (pa_cons (pv 4) pa_nil))) pa_nil)) (fun _ _ => rfl)))) pss_nil) (pss_cons (ps_set (i := 5) sc__law_judged.nd rfl (Or.inl rfl) (pe_calln c__law_more hr (by decide) rfl (pa_cons (pv 4) (pa_cons (pe_ix (ix_tupK (K := K) rfl) (pv 3) pe_int (fun _ _ => rfl)) pa_nil)))) (pss_cons (ps_if (pt_not (pt_val (pe_calln c__law_within hr (by decide) rfl (pa_cons (pv 5) (pa_cons (pe_ix (ix_listK (K := K) rfl) (pv 1) (pe_ix (ix_tupK (K := K) rfl) (pv 3) pe_int (fun _ _ => rfl)) (fun _ _ => rfl)) pa_nil))))) (pss_one (ps_ret pe_str)) pss_nil) (pss_cons (ps_if (pt_not (pt_val (pe_calln c__law_within hr (by decide) rfl (pa_cons (pe_ix (ix_tupK (K := K) rfl) (pv 3) pe_int (fun _ _ => rfl)) (pa_cons (pe_calln c__law_free hr (by decide) rfl (pa_cons (pv 0) (pa_cons (pv 2) pa_nil))) pa_nil))))) (pss_one (ps_ret pe_str)) pss_nil) (pss_cons (ps_set (i := 6) sc__law_judged.nd rfl (Or.inl rfl) (pe_op op_cat (pe_op op_cat (pe_slice (sl_listK (K := K) rfl) (pv 2) po_none (po_some (pe_ix (ix_tupK (K := K) rfl) (pv 3) pe_int (fun _ _ => rfl)))) (pe_lst (pa_cons (pv 5) pa_nil))) (pe_slice (sl_listK (K := K) rfl) (pv 2) (po_some (pe_op op_add (pe_ix (ix_tupK (K := K) rfl) (pv 3) pe_int (fun _ _ => rfl)) pe_int)) po_none))) (pss_cons (ps_if (pt_cmpR op_lt (pe_callB (call_len_seqK (K := K) rfl) rfl bi.len PySem.boot_len (pa_cons (pe_calln c__law_greedy hr (by decide) rfl (pa_cons (pv 0) (pa_cons (pv 1) (pa_cons (pv 6) pa_nil)))) pa_nil)) (pe_callB (call_len_seqK (K := K) rfl) rfl bi.len PySem.boot_len (pa_cons (pv 1) pa_nil)) (nomark _)) (pss_one (ps_ret pe_str)) pss_nil) (pss_one (ps_ret pe_str))))))))))), ?_⟩
  have hcl : (((refL cs).length : Nat) : Int) = ((xss.length : Nat) : Int) := by rw [refs_len, hC.len, G.lc]
  by_cases c0 : d.wk < 0
  · refine ⟨_, rfl, e, _, _, _, rfl, rfl, SqT.of he, rfl, _, _, rfl, rfl, _, rfl, ?_⟩
    rw [decide_eq_true c0]
    rw [step_err (done_noWorker (.inl c0))] at q
    exact iteT (q H (Same.refl _))
  refine ⟨_, rfl, e, _, _, _, rfl, rfl, SqT.of he, rfl, _, _, rfl, rfl, _, rfl, ?_⟩
  rw [decide_eq_false c0]
  refine iteF ⟨_, rfl, e, _, _, _, rfl, rfl, SqT.of he, rfl, _, rfl, b, _, rfl, .inl hb, _, _, rfl, rfl, _, rfl, ?_⟩
  rw [hcl]
  by_cases c1 : (xss.length : Int) ≤ d.wk
  · rw [decide_eq_true c1]
    rw [step_err (done_noWorker (.inr c1))] at q
    exact iteT (q H (Same.refl _))
  rw [decide_eq_false c1]
  have hin : ¬ (d.wk < 0 ∨ (xss.length : Int) ≤ d.wk) := by omega
  refine iteF ?_
  refine ⟨_, rfl, e, _, _, _, rfl, rfl, SqT.of he, rfl, g, rfl, ⟨_, SqL.of hg⟩, ?_⟩
  refine comp_filter_ints (p := fun x => decide (x < 0)) (SqL.of hg) (small (by omega)) ?_ ?_
  · intro x H' Kf sm k
    exact ⟨_, rfl, _, _, rfl, rfl, _, rfl, k⟩
  intro D H1 hD s1 hDs
  refine ⟨(by show 0 ≤ sizeLine; decide), fun N hN => ?_⟩
  have s2 := s1.trans (same_new hN (.lst []))
  have hDs2 := (same_new hN (.lst [])) _ _ hDs
  refine ⟨D, N, _, rfl, rfl, SqL.of hDs2, SqL.of upd_same, _, rfl, ?_⟩
  rw [filter_neg]
  by_cases c2 : d.am.any (fun x => decide (x < 0)) = true
  · rw [c2]
    rw [step_err (done_noAmount hin c2)] at q
    exact iteT (q _ s2)
  rw [Bool.eq_false_iff.mpr c2]
  refine iteF ?_
  generalize upd H1 N (.lst []) = H2 at s2
  obtain ⟨k, hkw⟩ : ∃ k : Nat, d.wk = (k : Int) := ⟨d.wk.toNat, by omega⟩
  have hk : k < xss.length := by omega
  have hkt : d.wk.toNat = k := by omega
  have hxe : xss[k]? = some (xss.getD k []) := by rw [List.getD_eq_getElem?_getD, List.getElem?_eq_getElem hk]; rfl
  have hce : css[k]? = some (css.getD k []) := by rw [List.getD_eq_getElem?_getD, List.getElem?_eq_getElem (by rw [G.lc]; exact hk)]; rfl
  have hlx : (xss.getD k []).length = st.length := G.rx _ (row_mem hk)
  have hlc : (css.getD k []).length = st.length := G.rc _ (row_mem (by rw [G.lc]; exact hk))
  have hG2 := G.lend hk hal (any_neg c2)
  obtain ⟨r, er, hr'⟩ := hR.get hxe
  obtain ⟨r2, er2, hr2⟩ := hC.get hce
  refine ⟨_, rfl, _, rfl, e, _, _, _, rfl, rfl, SqT.of (s2 _ _ he), rfl, c, _, _, _, rfl, rfl, s2.seq hc, (by rw [hkw]; exact atI_refs er), ?_⟩
  refine ⟨_, rfl, e, _, _, _, rfl, rfl, SqT.of (s2 _ _ he), rfl, rfl, _, rfl, ?_⟩
  cases hask : d.ask with
  | false =>
    have hw : d.word = "give" := by unfold Deed.word; rw [hask]; rfl
    have hgd : d.good = "given back" := by unfold Deed.good; rw [hask]; rfl
    rw [hw]
    refine iteTd (by decide) ?_
    refine ⟨(by show 2 ≤ sizeLine; decide), fun L hL => ?_⟩
    have s3 := s2.trans (same_new hL (.lst [.str "not lent", .str "given back"]))
    refine ⟨_, rfl, e, _, _, _, rfl, rfl, SqT.of (s3 _ _ he), rfl, _, rfl, g, r, d.am, _, rfl, SqL.of (s3 _ _ hg), SqL.of (s3 _ _ hr'), by omega, by omega, fun H4 s4 => .inr ⟨_, rfl, L, _, _, _, rfl, rfl, SqL.of (s4 _ _ upd_same), pickB _ _ _, ?_⟩⟩
    have hd := done_give (st := st) (css := css) hin c2 hask
    rw [hkt] at hd
    by_cases c3 : fitsM d.am (xss.getD k []) = true
    · rw [if_pos c3] at hd
      rw [step_ok hd, hgd] at q
      rw [c3]
      exact q _ (s3.trans s4)
    · rw [if_neg c3] at hd
      rw [step_err hd] at q
      rw [Bool.eq_false_iff.mpr c3]
      exact q _ (s3.trans s4)
  | true =>
    have hw : d.word = "ask" := by unfold Deed.word; rw [hask]; rfl
    have hgd : d.good = "lent" := by unfold Deed.good; rw [hask]; rfl
    rw [hw]
    refine iteFd (by decide) ?_
    have d3 := done_over (st := st) (css := css) hin c2 hask
    have d4 := done_notFree (st := st) (css := css) hin c2 hask
    have d5 := done_knot (st := st) (css := css) hin c2 hask
    have d6 := done_lent (st := st) (css := css) hin c2 hask
    rw [hkt] at d3 d4 d5 d6
    have hlv : (vadd (xss.getD k []) d.am).length = st.length := by rw [vadd_len (by omega)]; exact hlx
    refine ⟨_, rfl, _, rfl, e, _, _, _, rfl, rfl, SqT.of (s2 _ _ he), rfl, r, g, _, d.am, rfl, SqL.of (s2 _ _ hr'), SqL.of (s2 _ _ hg), by omega, by omega, fun H3 M s3 hM0 hM => ?_⟩
    have s23 := s2.trans s3
    refine ⟨_, rfl, _, rfl, _, rfl, e, _, _, _, rfl, rfl, SqT.of (s23 _ _ he), rfl, b, _, _, _, rfl, rfl, s23.seq hb, (by rw [hkw]; exact atI_refs er2), M, r2, _, _, rfl, SqL.of hM, SqL.of (s23 _ _ hr2), by omega, by omega, fun H4 s4 => ⟨_, rfl, ?_⟩⟩
    have s24 := s23.trans s4
    by_cases c3 : fitsM (vadd (xss.getD k []) d.am) (css.getD k []) = false
    · rw [step_err (d3 c3)] at q
      rw [c3]
      exact iteT (q _ s24)
    rw [nf c3]
    refine iteF ?_
    refine ⟨_, rfl, e, _, _, _, rfl, rfl, SqT.of (s24 _ _ he), rfl, _, rfl, _, rfl, a, c, st, rs, xss, rfl, s24.seq ha, s24.seq hc, hR.same s24, G.rx, hz, fun H5 F5 s5 hF0 hF => ?_⟩
    have s25 := s24.trans s5
    refine ⟨g, F5, d.am, _, rfl, SqL.of (s25 _ _ hg), SqL.of hF, by rw [hal]; exact G.free.symm, by omega, fun H6 s6 => ⟨_, rfl, ?_⟩⟩
    have s26 := s25.trans s6
    have hfe : xss.foldl vsub st = freeM st xss := rfl
    rw [hfe]
    by_cases c4 : fitsM d.am (freeM st xss) = false
    · rw [step_err (d4 c3 c4)] at q
      rw [c4]
      exact iteT (q _ s26)
    rw [nf c4]
    refine iteF ?_
    have hM6 := s6 _ _ (s5 _ _ (s4 _ _ hM))
    refine ⟨_, rfl, _, rfl, e, _, _, _, rfl, rfl, SqT.of (s26 _ _ he), rfl, _, rfl, c, _, rfl, s26.seq hc, fun p1 hp1 => ?_⟩
    have t1 := same_new hp1 (.lst (cutV (refL rs) none (some d.wk)))
    refine ⟨_, rfl, (by show 1 ≤ sizeLine; decide), fun p2 hp2 => ?_⟩
    have t2 := same_new hp2 (.lst [.ref M])
    have hrl : rs.length = xss.length := hR.len
    have hsz : ∀ lo hi, (cutV (refL rs) lo hi).length ≤ 1000 := fun lo hi => Nat.le_trans (cutV_length _ _ _) (by rw [refs_len, hrl]; exact hz2)
    refine ⟨p1, p2, _, _, rfl, rfl, t2 _ _ upd_same, upd_same, ?_, fun p3 hp3 => ?_⟩
    · have := hsz none (some d.wk)
      have h2 : (1001 : Nat) ≤ sizeLine := by decide
      simp only [List.length_singleton]
      omega
    have t3 := same_new hp3 (.lst (cutV (refL rs) none (some d.wk) ++ [.ref M]))
    have s27 := s26.trans (t1.trans (t2.trans t3))
    refine ⟨_, rfl, _, rfl, e, _, _, _, rfl, rfl, SqT.of (s27 _ _ he), rfl, _, _, rfl, rfl, _, rfl, c, _, rfl, s27.seq hc, fun p4 hp4 => ?_⟩
    have t4 := same_new hp4 (.lst (cutV (refL rs) (some (d.wk + 1)) none))
    refine ⟨p3, p4, _, _, rfl, rfl, t4 _ _ upd_same, upd_same, ?_, fun p5 hp5 => ?_⟩
    · have h1 := hsz none (some d.wk)
      have h2 := hsz (some (d.wk + 1)) none
      have h3 : (2002 : Nat) ≤ sizeLine := by decide
      rw [List.length_append, List.length_singleton]
      omega
    rw [hkw, cut_set rs k M (by omega)]
    have t5 := same_new hp5 (.lst (refL (rs.set k M)))
    have t6 := t1.trans (t2.trans (t3.trans (t4.trans t5)))
    rw [hkw] at t6
    have s28 := s26.trans t6
    have hn2 : (xss.set k (vadd (xss.getD k []) d.am)).length = xss.length := List.length_set
    refine ⟨_, rfl, _, rfl, _, rfl, a, b, p5, st, cs, rs.set k M, css, xss.set k (vadd (xss.getD k []) d.am), rfl, s28.seq ha, s28.seq hb, hC.same s28, SqL.of upd_same, Rows.setr (hR.same s28) (t6 _ _ hM6), hG2, hz, by omega, fun H9 L o s9 hL0 hL Od hsafe => ?_⟩
    have s29 := s28.trans s9
    refine ⟨L, _, rfl, .inl (SqL.of hL), _, rfl, b, _, rfl, .inl (s29.seq hb), _, _, rfl, rfl, _, rfl, ?_⟩
    rw [hn2] at hsafe
    rw [nats_len, hcl]
    by_cases c5 : o.length < xss.length
    · rw [step_err (d5 c3 c4 (hsafe.mp c5))] at q
      rw [decide_eq_true (by omega)]
      exact iteT (q _ s29)
    · rw [step_ok (d6 c3 c4 (Classical.byContradiction fun z => c5 (hsafe.mpr z))), hgd] at q
      rw [decide_eq_false (by omega)]
      exact iteF (q _ s29)

def spChanged (K : PySem.W.Frag) : Sp := fun vs H Q _ => ∃ (c e : Addr) (st : List Int) (rs : List Addr) (css xss : List (List Int)) (d : Deed), vs = [.ref c, .ref e, .str (stepM st css xss d).1] ∧ SqL K H c (refL rs) ∧ Rows H rs xss ∧ DeedAt H e d ∧
  Gd st css xss ∧ d.am.length = st.length ∧ st.length ≤ 1000 ∧ xss.length ≤ 1000 ∧
  ∀ H' L qs, Same H H' → H L = none → H' L = some (.lst (refL qs)) → Rows H' qs (stepM st css xss d).2 → (∀ r ∈ qs, H r = none) → Q (.ref L) H'
theorem ok__law_changed (bi : BI mg) {ca : CA} (ck : CK K mg ca)
    (c__law_more : Callee P w K mg base "_law_more" 2 ["_law_one", "_law_other"] (spMore K))
    (c__law_less : Callee P w K mg base "_law_less" 2 ["_law_one", "_law_other"] (spLess K))
    {f : Addr} {fd : FuncData} (F : Fun K "_law_changed" "_law_changed" s__law_changed f fd) : FnOk P w K mg base CX0 3 f fd ["_law_loans", "_law_deed", "_law_word"] (spChanged K) := by
  refine F.ok sc__law_changed (fun vs H Q E h => ?_) (fun cdv A outer s H vs Q E hr h => ?_)
  · obtain ⟨c, e, st, rs, css, xss, d, rfl, _⟩ := h
    rfl
  obtain ⟨c, e, st, rs, css, xss, d, rfl, hc, hR, ⟨g, he, hg⟩, G, hal, hz, hz2, q⟩ := h
  refine ⟨_, (pss_cons (ps_setC (i := 3) sc__law_changed.nd rfl (Or.inl rfl) (blk_mk (own := ["_law_loan"]) (caps := []) (js := []) rfl (by decide +kernel) (by decide +kernel) rfl trivial) rfl (pi_listK (K := K) rfl (pv 0)) (fun _ _ _ _ => (pg_name (i := 0) (show (["_law_loan"] : List Str).Nodup by decide +kernel) rfl (Or.inl rfl))) (fun _ _ _ _ => pif_nil) (fun _ _ _ _ => (pe_callTy (call_list_ofK (K := K) rfl) rfl bi.list BootN.list (pa_cons (pv 0) pa_nil)))) (pss_cons (ps_if (pt_cmpR op_eq (pv 2) pe_str (nomark _)) (pss_one (ps_asg (pe_calln c__law_more hr (by decide) rfl (pa_cons (pe_ix (ix_listK (K := K) rfl) (pv 0) (pe_ix (ix_tupK (K := K) rfl) (pv 1) pe_int (fun _ _ => rfl)) (fun _ _ => rfl)) (pa_cons (pe_ix (ix_tupK (K := K) rfl) (pv 1) pe_int (fun _ _ => rfl)) pa_nil))) (pg_sub (pv 3) (pe_ix (ix_tupK (K := K) rfl) (pv 1) pe_int (fun _ _ => rfl)) set_list))) pss_nil) (pss_cons (ps_if (pt_cmpR op_eq (pv 2) pe_str (nomark _)) (pss_one (ps_asg (pe_calln c__law_less hr (by decide) rfl (pa_cons (pe_ix (ix_listK (K := K) rfl) (pv 0) (pe_ix (ix_tupK (K := K) rfl) (pv 1) pe_int (fun _ _ => rfl)) (fun _ _ => rfl)) (pa_cons (pe_ix (ix_tupK (K := K) rfl) (pv 1) pe_int (fun _ _ => rfl)) pa_nil))) (pg_sub (pv 3) (pe_ix (ix_tupK (K := K) rfl) (pv 1) pe_int (fun _ _ => rfl)) set_list))) pss_nil) (pss_one (ps_ret (pv 3)))))), ?_⟩
  refine ⟨_, rfl, c, rfl, ⟨_, hc⟩, ?_⟩
  refine copy_rows hc hR hz2 fun H1 L qs s1 hL hQ hL0 hq0 hLq hnd => ?_
  cases hd : doneM st css xss d with
  | error i =>
    rw [step_err hd] at q ⊢
    refine ⟨_, rfl, rfl, _, rfl, ?_⟩
    refine iteFd (by show decide (V.str (wordX i) = V.str "lent") = false; cases i <;> decide) ?_
    refine ⟨_, rfl, rfl, _, rfl, ?_⟩
    refine iteFd (by show decide (V.str (wordX i) = V.str "given back") = false; cases i <;> decide) ?_
    exact ⟨_, rfl, q H1 L qs s1 hL0 hL hQ hq0⟩
  | ok yss =>
    rw [step_ok hd] at q ⊢
    have hd2 := hd
    unfold doneM at hd2
    cases hask : d.ask with
    | true =>
      have hgd : d.good = "lent" := by unfold Deed.good; rw [hask]; rfl
      rw [hask, if_pos rfl] at hd2
      obtain ⟨h0, hk, _, _, _, _, rfl⟩ := lentM_ok hd2
      obtain ⟨k, hkw⟩ : ∃ k : Nat, d.wk = (k : Int) := ⟨d.wk.toNat, by omega⟩
      have hkt : d.wk.toNat = k := by omega
      rw [hkt] at hk q
      have hxe : xss[k]? = some (xss.getD k []) := by rw [List.getD_eq_getElem?_getD, List.getElem?_eq_getElem hk]; rfl
      have hlx : (xss.getD k []).length = st.length := G.rx _ (row_mem hk)
      obtain ⟨r, er, hr'⟩ := hR.get hxe
      rw [hgd]
      refine ⟨_, rfl, rfl, _, rfl, ?_⟩
      refine iteTd (by show decide (V.str "lent" = V.str "lent") = true; decide) ?_
      refine ⟨_, rfl, _, rfl, e, _, _, _, rfl, rfl, SqT.of (s1 _ _ he), rfl, c, _, _, _, rfl, rfl, s1.seq hc, (by rw [hkw]; exact atI_refs er), _, rfl, e, _, _, _, rfl, rfl, SqT.of (s1 _ _ he), rfl, r, g, _, d.am, rfl, SqL.of (s1 _ _ hr'), SqL.of (s1 _ _ hg), by omega, by omega, fun H2 M s2 hM0 hM => ?_⟩
      have s12 := s1.trans s2
      refine ⟨_, rfl, _, rfl, e, _, _, _, rfl, rfl, SqT.of (s12 _ _ he), rfl, L, _, _, k, rfl, rfl, s2 _ _ hL, (by rw [hkw]; exact ixN_nat (by rw [refs_len, hQ.len]; exact hk)), ?_⟩
      refine ⟨_, rfl, rfl, _, rfl, ?_⟩
      refine iteFd (by show decide (V.str "lent" = V.str "given back") = false; decide) ?_
      have hML : M ≠ L := fun e => by rw [e, hL] at hM0; cases hM0
      refine ⟨_, rfl, q _ L (qs.set k M) (same_upd s12 hL0) hL0 (by rw [upd_same, refs_set]) ?_ fun r2 hr2 => ?_⟩
      · refine Rows.updt (Rows.setr (hQ.same s2) hM) fun z => ?_
        rcases List.mem_or_eq_of_mem_set z with y | y
        · exact hLq y
        · exact hML y.symm
      · rcases List.mem_or_eq_of_mem_set hr2 with y | y
        · exact hq0 r2 y
        · rw [y]; exact s1.free hM0
    | false =>
      have hgd : d.good = "given back" := by unfold Deed.good; rw [hask]; rfl
      rw [hask, if_neg (by decide)] at hd2
      obtain ⟨h0, hk, _, _, rfl⟩ := retM_ok2 hd2
      obtain ⟨k, hkw⟩ : ∃ k : Nat, d.wk = (k : Int) := ⟨d.wk.toNat, by omega⟩
      have hkt : d.wk.toNat = k := by omega
      rw [hkt] at hk q
      have hxe : xss[k]? = some (xss.getD k []) := by rw [List.getD_eq_getElem?_getD, List.getElem?_eq_getElem hk]; rfl
      have hlx : (xss.getD k []).length = st.length := G.rx _ (row_mem hk)
      obtain ⟨r, er, hr'⟩ := hR.get hxe
      rw [hgd]
      refine ⟨_, rfl, rfl, _, rfl, ?_⟩
      refine iteFd (by show decide (V.str "given back" = V.str "lent") = false; decide) ?_
      refine ⟨_, rfl, rfl, _, rfl, ?_⟩
      refine iteTd (by show decide (V.str "given back" = V.str "given back") = true; decide) ?_
      refine ⟨_, rfl, _, rfl, e, _, _, _, rfl, rfl, SqT.of (s1 _ _ he), rfl, c, _, _, _, rfl, rfl, s1.seq hc, (by rw [hkw]; exact atI_refs er), _, rfl, e, _, _, _, rfl, rfl, SqT.of (s1 _ _ he), rfl, r, g, _, d.am, rfl, SqL.of (s1 _ _ hr'), SqL.of (s1 _ _ hg), by omega, by omega, fun H2 M s2 hM0 hM => ?_⟩
      have s12 := s1.trans s2
      refine ⟨_, rfl, _, rfl, e, _, _, _, rfl, rfl, SqT.of (s12 _ _ he), rfl, L, _, _, k, rfl, rfl, s2 _ _ hL, (by rw [hkw]; exact ixN_nat (by rw [refs_len, hQ.len]; exact hk)), ?_⟩
      have hML : M ≠ L := fun e => by rw [e, hL] at hM0; cases hM0
      refine ⟨_, rfl, q _ L (qs.set k M) (same_upd s12 hL0) hL0 (by rw [upd_same, refs_set]) ?_ fun r2 hr2 => ?_⟩
      · refine Rows.updt (Rows.setr (hQ.same s2) hM) fun z => ?_
        rcases List.mem_or_eq_of_mem_set z with y | y
        · exact hLq y
        · exact hML y.symm
      · rcases List.mem_or_eq_of_mem_set hr2 with y | y
        · exact hq0 r2 y
        · rw [y]; exact s1.free hM0

def spSound (K : PySem.W.Frag) : Sp := fun vs H Q _ => ∃ (a b c : Addr) (st : List Int) (cs rs : List Addr) (css xss : List (List Int)), vs = [.ref a, .ref b, .ref c] ∧ SqL K H a (intL st) ∧ SqL K H b (refL cs) ∧ Rows H cs css ∧ SqL K H c (refL rs) ∧ Rows H rs xss ∧ Sd st css xss ∧ 1 ≤ st.length ∧ st.length ≤ 1000 ∧ xss.length ≤ 1000 ∧ ∀ H', Same H H' → Q (.bl true) H'
theorem ok__law_sound (bi : BI mg) {ca : CA} (ck : CK K mg ca)
    (c__law_free : Callee P w K mg base "_law_free" 3 ["_law_stock", "_law_loans"] (spFree K))
    (c__law_within : Callee P w K mg base "_law_within" 2 ["_law_one", "_law_other"] (spWithin K))
    (c__law_greedy : Callee P w K mg base "_law_greedy" 4 ["_law_stock", "_law_claims", "_law_loans"] (spGreedy K))
    {f : Addr} {fd : FuncData} (F : Fun K "_law_sound" "_law_sound" s__law_sound f fd) : FnOk P w K mg base CX0 5 f fd ["_law_stock", "_law_claims", "_law_loans"] (spSound K) := by
  refine F.ok sc__law_sound (fun vs H Q E h => ?_) (fun cdv A outer s H vs Q E hr h => ?_)
  · obtain ⟨a, b, c, st, cs, rs, css, xss, rfl, _⟩ := h
    rfl
  obtain ⟨a, b, c, st, cs, rs, css, xss, rfl, ha, hb, hC, hc, hR, S, hst1, hz, hz2, q⟩ := h
  have G := S.g
  have hfl := G.free
  refine ⟨_, (pss_cons (ps_if (pt_cmpR (op_neNil (K := K) rfl hr.below) (pe_comp (blk_mk (own := ["_law_one"]) (caps := []) (js := []) rfl (by decide +kernel) (by decide +kernel) rfl trivial) rfl (pi_listK (K := K) rfl (pe_calln c__law_free hr (by decide) rfl (pa_cons (pv 0) (pa_cons (pv 2) pa_nil)))) (fun _ _ _ _ => (pg_name (i := 0) (show (["_law_one"] : List Str).Nodup by decide +kernel) rfl (Or.inl rfl))) (fun _ _ _ _ => (pif_one (pt_cmpR op_lt (pv 0) pe_int (nomark _)))) (fun _ _ _ _ => (pv 0))) (pe_lst pa_nil) (nomark _)) (pss_one (ps_ret pe_bl)) pss_nil) (pss_cons (ps_for PassesOwn.never rfl (pi_range1 rfl bi.range (pa_cons (pe_callB (call_len_seqK (K := K) rfl) rfl bi.len PySem.boot_len (pa_cons (pv 1) pa_nil)) pa_nil)) (pg_name (i := 3) sc__law_sound.nd rfl (Or.inl rfl)) (pss_one (ps_if (PW.pt (pw_or (pt_cmpR op_lt (pe_callB (call_minLK (K := K) rfl rfl) rfl bi.min BootN.min (pa_cons (pe_ix (ix_listK (K := K) rfl) (pv 2) (pv 3) (fun _ _ => rfl)) pa_nil)) pe_int (nomark _)) (pw_or1 (pt_not (pt_val (pe_calln c__law_within hr (by decide) rfl (pa_cons (pe_ix (ix_listK (K := K) rfl) (pv 2) (pv 3) (fun _ _ => rfl)) (pa_cons (pe_ix (ix_listK (K := K) rfl) (pv 1) (pv 3) (fun _ _ => rfl)) pa_nil)))))))) (pss_one (ps_ret pe_bl)) pss_nil))) (pss_one (ps_ret (pe_cmpR op_eq (pe_callB (call_len_seqK (K := K) rfl) rfl bi.len PySem.boot_len (pa_cons (pe_calln c__law_greedy hr (by decide) rfl (pa_cons (pv 0) (pa_cons (pv 1) (pa_cons (pv 2) pa_nil)))) pa_nil)) (pe_callB (call_len_seqK (K := K) rfl) rfl bi.len PySem.boot_len (pa_cons (pv 1) pa_nil)) (nomark _)))))), ?_⟩
  refine ⟨_, rfl, _, rfl, a, c, st, rs, xss, rfl, ha, hc, hR, G.rx, hz, fun H1 f s1 hf0 hf => ?_⟩
  refine ⟨f, rfl, ⟨_, SqL.of hf⟩, ?_⟩
  refine comp_filter_ints (p := fun x => decide (x < 0)) (SqL.of hf) (by show (freeM st xss).length ≤ sizeLine; rw [hfl]; exact small hz) ?_ ?_
  · intro x H' Kf sm k
    exact ⟨_, rfl, _, _, rfl, rfl, _, rfl, k⟩
  intro D H2 hD s2 hDs
  refine ⟨(by show 0 ≤ sizeLine; decide), fun N hN => ?_⟩
  have s3 := s1.trans (s2.trans (same_new hN (.lst [])))
  refine ⟨D, N, _, rfl, rfl, SqL.of (same_new hN _ _ _ hDs), SqL.of upd_same, _, rfl, ?_⟩
  rw [filter_neg, Bool.eq_false_iff.mpr (no_neg (nonneg_of_at S.fr) : ¬ (xss.foldl vsub st).any (fun x => decide (x < 0)) = true)]
  refine iteF ?_
  generalize upd H2 N (.lst []) = H3 at s3
  have hcl : (((refL cs).length : Nat) : Int) = ((xss.length : Nat) : Int) := by rw [refs_len, hC.len, G.lc]
  refine ⟨_, rfl, b, _, rfl, .inl (s3.seq hb), _, rfl, by omega, by omega, ?_⟩
  refine for_range0 (fun i σ' H' => ∃ p, σ' = [some (.ref a), some (.ref b), some (.ref c), p] ∧ Same H H') ⟨none, rfl, s3⟩ ?_ ?_
  · rintro k σ' H' hk ⟨p, rfl, sm⟩
    have hk' : k < xss.length := by omega
    have hxe : xss[k]? = some (xss.getD k []) := by rw [List.getD_eq_getElem?_getD, List.getElem?_eq_getElem hk']; rfl
    have hce : css[k]? = some (css.getD k []) := by rw [List.getD_eq_getElem?_getD, List.getElem?_eq_getElem (by rw [G.lc]; exact hk')]; rfl
    obtain ⟨r, er, hr'⟩ := hR.get hxe
    obtain ⟨r2, er2, hr2⟩ := hC.get hce
    have hlc := G.lc' hk'
    have hlx := G.lx' hk'
    refine ⟨_, rfl, _, rfl, c, _, _, _, rfl, rfl, sm.seq hc, atI_refs er, r, _, rfl, SqL.of (sm _ _ hr'), by omega, fun v hv => ?_⟩
    have hv0 := G.nn _ (row_mem hk') v hv
    refine ⟨_, _, rfl, rfl, _, rfl, ?_⟩
    rw [decide_eq_false (by omega)]
    refine iteF ⟨_, rfl, _, rfl, c, _, _, _, rfl, rfl, sm.seq hc, atI_refs er, _, rfl, _, rfl, b, _, _, _, rfl, rfl, sm.seq hb, atI_refs er2, r, r2, _, _, rfl, SqL.of (sm _ _ hr'), SqL.of (sm _ _ hr2), by omega, by omega, fun H4 s4 => ⟨_, rfl, ?_⟩⟩
    rw [S.le k hk']
    exact iteF ⟨_, rfl, sm.trans s4⟩
  · rintro σ' H' ⟨p, rfl, sm⟩
    refine ⟨_, rfl, _, rfl, _, rfl, a, b, c, st, cs, rs, css, xss, rfl, sm.seq ha, sm.seq hb, hC.same sm, sm.seq hc, hR.same sm, G, hz, hz2, fun H5 L o s5 _ hL Od hsafe => ?_⟩
    refine ⟨L, _, rfl, .inl (SqL.of hL), _, rfl, b, _, rfl, .inl ((sm.trans s5).seq hb), rfl, ?_⟩
    have hol : o.length = xss.length := by
      have h1 := len_le Od.nd Od.lt
      refine Classical.byContradiction fun z => hsafe.mp (by omega) S.sf
    rw [nats_len, hcl, hol, decide_eq_true rfl]
    exact q H5 (sm.trans s5)

theorem pick2i (x y i : Int) (h0 : 0 ≤ i) (h1 : i < 2) : atI [V.int x, V.int y] i = some (.int (if i = 1 then y else x)) := by
  have : i = 0 ∨ i = 1 := by omega
  rcases this with rfl | rfl <;> rfl
theorem pick4 (x y z u i : Int) (h0 : 0 ≤ i) (h1 : i < 4) : ∃ v, atI [V.int x, V.int y, V.int z, V.int u] i = some (.int v) ∧ (v = x ∨ v = y ∨ v = z ∨ v = u) := by
  have : i = 0 ∨ i = 1 ∨ i = 2 ∨ i = 3 := by omega
  rcases this with rfl | rfl | rfl | rfl
  · exact ⟨x, rfl, .inl rfl⟩
  · exact ⟨y, rfl, .inr (.inl rfl)⟩
  · exact ⟨z, rfl, .inr (.inr (.inl rfl))⟩
  · exact ⟨u, rfl, .inr (.inr (.inr rfl))⟩
def spScales (K : PySem.W.Frag) : Sp := fun vs H Q _ => ∃ (n : Nat) (seed way : Int), vs = [.int (n : Int), .int seed, .int way] ∧ n ≤ 1000 ∧ 0 ≤ way ∧ way < 4 ∧
  ∀ H' L sv, Same H H' → H L = none → H' L = some (.lst (intL sv)) → sv.length = n → (∀ j : Nat, 0 ≤ sv.getD j 0) → Q (.ref L) H'
theorem ok__law_scales (bi : BI mg) {ca : CA} (ck : CK K mg ca)
    {f : Addr} {fd : FuncData} (F : Fun K "_law_scales" "_law_scales" s__law_scales f fd) : FnOk P w K mg base CX0 2 f fd ["_law_kinds", "_law_seed", "_law_way"] (spScales K) := by
  refine F.ok sc__law_scales (fun vs H Q E h => ?_) (fun cdv A outer s H vs Q E hr h => ?_)
  · obtain ⟨n, seed, way, rfl, _⟩ := h
    rfl
  obtain ⟨n, seed, way, rfl, hn, h0, h4, q⟩ := h
  refine ⟨_, (pss_cons (ps_set (i := 3) sc__law_scales.nd rfl (Or.inr rfl) (pe_ix (ix_listK (K := K) rfl) (pe_lst (pa_cons pe_int (pa_cons pe_int (pa_cons (pe_op op_pow pe_int pe_int) (pa_cons (pe_op op_add pe_int (pe_op op_mod (pe_op op_fdiv (pv 1) pe_int) (pe_op op_pow pe_int pe_int))) pa_nil))))) (pv 2) (fun _ _ => rfl))) (pss_one (ps_ret (pe_comp (blk_mk (own := ["_law_j"]) (caps := ["_law_seed", "_law_scale"]) (js := [1, 3]) rfl (by decide +kernel) (by decide +kernel) rfl ⟨⟨rfl, rfl, .inr (.inl rfl)⟩, ⟨⟨rfl, rfl, .inr (.inl rfl)⟩, trivial⟩⟩) rfl (pi_range1 rfl bi.range (pa_cons (pv 0) pa_nil)) (fun _ _ _ _ => (pg_name (i := 0) (show (["_law_j", "_law_seed", "_law_scale"] : List Str).Nodup by decide +kernel) rfl (Or.inl rfl))) (fun _ _ _ _ => pif_nil) (fun _ _ _ _ => (pe_ix (ix_listK (K := K) rfl) (pe_lst (pa_cons (pv 2) (pa_cons pe_int pa_nil))) (pe_op op_mul (pe_op op_mod (pe_op op_fdiv (pv 1) pe_int) pe_int) (pe_op op_mod (pv 0) pe_int)) (fun _ _ => rfl))))))), ?_⟩
  refine ⟨_, _, rfl, rfl, ⟨by decide, by decide, by decide⟩, _, rfl, _, _, rfl, rfl, ⟨by decide, by decide⟩, _, _, rfl, rfl, ⟨by decide, by decide, by decide⟩, _, _, rfl, rfl, (by show (0 : Int) < _; decide), _, _, rfl, rfl, (by show 4 ≤ sizeLine; decide), fun Z hZ => ?_⟩
  have sZ := same_new hZ (.lst [.int 1, .int 7, .int ((10 : Int) ^ (9 : Int).toNat), .int (11 + seed / 64 % (10 : Int) ^ (60 : Int).toNat)])
  obtain ⟨sc, hsc, hscv⟩ := pick4 1 7 ((10 : Int) ^ (9 : Int).toNat) (11 + seed / 64 % (10 : Int) ^ (60 : Int).toNat) way h0 h4
  have hsc0 : 0 ≤ sc := by
    have := Int.emod_nonneg (seed / 64) (show (10 : Int) ^ (60 : Int).toNat ≠ 0 by decide)
    rcases hscv with z | z | z | z
    · omega
    · omega
    · rw [z]; decide
    · omega
  refine ⟨_, rfl, Z, _, _, _, rfl, rfl, SqL.of upd_same, hsc, ?_⟩
  generalize upd H Z (.lst [.int 1, .int 7, .int ((10 : Int) ^ (9 : Int).toNat), .int (11 + seed / 64 % (10 : Int) ^ (60 : Int).toNat)]) = H1 at sZ
  refine ⟨_, rfl, _, rfl, by omega, by omega, ?_⟩
  refine comp_range_ints (n := ((n : Nat) : Int).toNat) (f := fun j => if seed / 5 % 2 * ((j : Int) % 2) = 1 then 1 else sc) (small (by omega)) ?_ ?_
  · intro j H' Kx hj sm k
    have e1 := Int.emod_nonneg (seed / 5) (show (2 : Int) ≠ 0 by decide)
    have e2 := Int.emod_lt_of_pos (seed / 5) (show (0 : Int) < 2 by decide)
    have e3 := Int.emod_nonneg (j : Int) (show (2 : Int) ≠ 0 by decide)
    have e4 := Int.emod_lt_of_pos (j : Int) (show (0 : Int) < 2 by decide)
    have e5 : 0 ≤ seed / 5 % 2 * ((j : Int) % 2) ∧ seed / 5 % 2 * ((j : Int) % 2) < 2 := by
      have a1 : seed / 5 % 2 = 0 ∨ seed / 5 % 2 = 1 := by omega
      rcases a1 with z | z <;> rw [z] <;> omega
    refine ⟨_, rfl, (by show 2 ≤ sizeLine; decide), fun Y hY => ?_⟩
    refine ⟨_, rfl, _, _, rfl, rfl, ⟨by decide, by decide⟩, _, _, rfl, rfl, (by show (0 : Int) < _; decide), _, rfl, _, _, rfl, rfl, (by show (0 : Int) < _; decide), _, _, rfl, rfl, .inl ⟨by omega, by omega⟩, Y, _, _, _, rfl, rfl, SqL.of upd_same, pick2i _ _ _ e5.1 e5.2, ?_⟩
    exact k _ (same_new hY _)
  intro D H2 hD s2 hDs
  refine q H2 D _ (sZ.trans s2) (sZ.free hD) hDs (by simp) fun j => ?_
  by_cases hj : j < n
  · rw [List.getD_eq_getElem?_getD, List.getElem?_map, Int.toNat_natCast, List.getElem?_range hj]
    show 0 ≤ (if seed / 5 % 2 * ((j : Int) % 2) = 1 then 1 else sc)
    split <;> omega
  · rw [List.getD_eq_getElem?_getD, List.getElem?_eq_none (by simp; omega)]
    exact Int.le_refl _

theorem mod_ix {x : Int} {n : Nat} (h : 0 < n) : ∃ k : Nat, x % (n : Int) = (k : Int) ∧ k < n := by
  have h1 := Int.emod_nonneg x (show (n : Int) ≠ 0 by omega)
  have h2 := Int.emod_lt_of_pos x (show (0 : Int) < (n : Int) by omega)
  exact ⟨(x % (n : Int)).toNat, by omega, by omega⟩
def ClaimOk (st x : List Int) : Prop := x.length = st.length ∧ (∀ y ∈ x, 0 ≤ y) ∧ fitsM x st = true
def spClaimed (K : PySem.W.Frag) : Sp := fun vs H Q _ => ∃ (cnt : Nat) (a b c : Addr) (st ms sv : List Int), vs = [.int (cnt : Int), .ref a, .ref b, .ref c] ∧ SqL K H a (intL st) ∧ SqL K H b (intL ms) ∧ SqL K H c (intL sv) ∧ 0 < ms.length ∧ ms.length ≤ 1000 ∧ sv.length = st.length ∧ (∀ j : Nat, 0 ≤ st.getD j 0) ∧ (∀ j : Nat, 0 ≤ sv.getD j 0) ∧ cnt ≤ 1000 ∧ st.length ≤ 1000 ∧
  ∀ H' L rs css, Same H H' → H L = none → H' L = some (.lst (refL rs)) → Rows H' rs css → css.length = cnt → (∀ x ∈ css, ClaimOk st x) → Q (.ref L) H'
theorem ok__law_claimed (bi : BI mg) {ca : CA} (ck : CK K mg ca)
    {f : Addr} {fd : FuncData} (F : Fun K "_law_claimed" "_law_claimed" s__law_claimed f fd) : FnOk P w K mg base CX0 2 f fd ["_law_count", "_law_stock", "_law_cells", "_law_scale"] (spClaimed K) := by
  refine F.ok sc__law_claimed (fun vs H Q E h => ?_) (fun cdv A outer s H vs Q E hr h => ?_)
  · obtain ⟨cnt, a, b, c, st, ms, sv, rfl, _⟩ := h
    rfl
  obtain ⟨cnt, a, b, c, st, ms, sv, rfl, ha, hb, hc, hm0, hm1, hsl, hst, hsv, hcn, hz, q⟩ := h
  refine ⟨_, (pss_cons (ps_set (i := 4) sc__law_claimed.nd rfl (Or.inl rfl) (pe_lst pa_nil)) (pss_cons (ps_set (i := 5) sc__law_claimed.nd rfl (Or.inl rfl) (pe_callB (call_len_seqK (K := K) rfl) rfl bi.len PySem.boot_len (pa_cons (pv 1) pa_nil))) (pss_cons (ps_for PassesOwn.never rfl (pi_range1 rfl bi.range (pa_cons (pv 0) pa_nil)) (pg_name (i := 6) sc__law_claimed.nd rfl (Or.inl rfl)) (pss_cons (ps_set (i := 7) sc__law_claimed.nd rfl (Or.inl rfl) (pe_lst pa_nil)) (pss_cons (ps_for PassesOwn.never rfl (pi_range1 rfl bi.range (pa_cons (pv 5) pa_nil)) (pg_name (i := 8) sc__law_claimed.nd rfl (Or.inl rfl)) (pss_cons (ps_set (i := 9) sc__law_claimed.nd rfl (Or.inl rfl) (pe_op op_mod (pe_op op_add (pe_op op_add (pe_op op_fdiv (pe_ix (ix_listK (K := K) rfl) (pv 2) (pe_op op_mod (pe_op op_add (pe_op op_mul pe_int (pv 6)) (pv 8)) (pe_callB (call_len_seqK (K := K) rfl) rfl bi.len PySem.boot_len (pa_cons (pv 2) pa_nil))) (fun _ _ => rfl)) pe_int) (pv 6)) (pv 8)) pe_int)) (pss_one (ps_expr (pe_appendK (K := K) rfl (pv 7) (pa_cons (pe_callB (call_max2 rfl) rfl bi.max BootN.max (pa_cons pe_int (pa_cons (pe_op op_sub (pe_ix (ix_listK (K := K) rfl) (pv 1) (pv 8) (fun _ _ => rfl)) (pe_op op_mul (pv 9) (pe_ix (ix_listK (K := K) rfl) (pv 3) (pv 8) (fun _ _ => rfl)))) pa_nil))) pa_nil)))))) (pss_one (ps_expr (pe_appendK (K := K) rfl (pv 4) (pa_cons (pv 7) pa_nil))))))) (pss_one (ps_ret (pv 4)))))), ?_⟩
  refine ⟨(by show 0 ≤ sizeLine; decide), fun L hL => ?_⟩
  have s1 := same_new hL (.lst [])
  refine ⟨_, rfl, a, _, rfl, .inl (s1.seq ha), ?_⟩
  rw [ints_len]
  refine ⟨_, rfl, _, rfl, by omega, by omega, ?_⟩
  refine for_range0 (fun k σ' H' => ∃ p6 p7 p8 p9 rs css, σ' = [some (.int (cnt : Int)), some (.ref a), some (.ref b), some (.ref c), some (.ref L), some (.int (st.length : Int)), p6, p7, p8, p9] ∧ Same H H' ∧ L ∉ rs ∧ H' L = some (.lst (refL rs)) ∧ Rows H' rs css ∧ css.length = k ∧ ∀ x ∈ css, ClaimOk st x)
    ⟨none, none, none, none, [], [], rfl, s1, by simp, upd_same, trivial, rfl, by simp⟩ ?_ ?_
  · rintro k σ' H' hk ⟨p6, p7, p8, p9, rs, css, rfl, sm, hLr, h_L, hR, hcl, hok⟩
    have hk' : k < cnt := by omega
    refine ⟨(by show 0 ≤ sizeLine; decide), fun R hRn => ?_⟩
    have hRL : R ≠ L := fun e => by rw [e, h_L] at hRn; cases hRn
    have hRrs : R ∉ rs := hR.fresh hRn
    refine ⟨_, rfl, _, rfl, by omega, by omega, ?_⟩
    refine for_range0 (fun j σ2 H4 => ∃ p8 p9 xs, σ2 = [some (.int (cnt : Int)), some (.ref a), some (.ref b), some (.ref c), some (.ref L), some (.int (st.length : Int)), some (.int (k : Int)), some (.ref R), p8, p9] ∧ H4 = upd H' R (.lst (intL xs)) ∧ xs.length = j ∧ (∀ i : Nat, i < j → 0 ≤ xs.getD i 0 ∧ xs.getD i 0 ≤ st.getD i 0))
      ⟨p8, p9, [], rfl, rfl, rfl, fun i hi => absurd hi (Nat.not_lt_zero _)⟩ ?_ ?_
    · rintro j σ2 H4 hj ⟨p8, p9, xs, rfl, rfl, hxs, hb2⟩
      have hj' : j < st.length := by omega
      have s4 := same_upd (o := .lst (intL xs)) sm (sm.free hRn)
      have hlm : (((intL ms).length : Nat) : Int) = (ms.length : Int) := by rw [ints_len]
      obtain ⟨k2, hk2, hk3⟩ := mod_ix (x := 2 * (k : Int) + (j : Int)) hm0
      refine ⟨_, rfl, _, rfl, _, _, rfl, rfl, .inl ⟨by decide, by decide⟩, _, rfl, _, _, rfl, rfl, _, rfl, b, _, rfl, .inl (s4.seq hb), _, _, rfl, rfl, (by rw [hlm]; omega), b, _, _, _, rfl, rfl, s4.seq hb, (by rw [hlm, hk2]; exact atI_ints hk3), _, _, rfl, rfl, ⟨by decide, by decide⟩, _, rfl, _, _, rfl, rfl, _, rfl, _, _, rfl, rfl, _, _, rfl, rfl, (by show (0 : Int) < _; decide), ?_⟩
      dsimp only
      generalize hgp : (ms.getD k2 0 / 3 + (k : Int) + (j : Int)) % 4 = gp
      have g0 : 0 ≤ gp := by rw [← hgp]; exact Int.emod_nonneg _ (by decide)
      have g4 : gp < 4 := by rw [← hgp]; exact Int.emod_lt_of_pos _ (by decide)
      refine ⟨_, rfl, .inl ⟨rfl, _, SqL.of upd_same⟩, _, rfl, _, rfl, a, _, _, _, rfl, rfl, s4.seq ha, atI_ints hj', _, rfl, _, rfl, _, rfl, c, _, _, _, rfl, rfl, s4.seq hc, atI_ints (by omega), _, _, rfl, rfl, .inl ⟨by omega, by omega⟩, _, _, rfl, rfl, _, _, rfl, R, _, _, rfl, rfl, upd_same, (by rw [ints_len, hxs]; exact small1000 (by omega)), ?_⟩
      dsimp only
      refine ⟨_, _, xs ++ [_], rfl, by rw [upd_upd, ints_snoc], by simp [hxs], fun i hi => ?_⟩
      by_cases hij : i < j
      · rw [List.getD_eq_getElem?_getD, List.getElem?_append_left (by omega), ← List.getD_eq_getElem?_getD]
        exact hb2 i hij
      · have : i = j := by omega
        subst this
        rw [List.getD_eq_getElem?_getD, List.getElem?_append_right (by omega), hxs, Nat.sub_self]
        show 0 ≤ (if st.getD i 0 - gp * sv.getD i 0 > 0 then st.getD i 0 - gp * sv.getD i 0 else 0) ∧ (if st.getD i 0 - gp * sv.getD i 0 > 0 then st.getD i 0 - gp * sv.getD i 0 else 0) ≤ st.getD i 0
        have h1 := Int.mul_nonneg g0 (hsv i)
        have h2 := hst i
        split <;> omega
    · rintro σ2 H4 ⟨p8, p9, xs, rfl, rfl, hxs, hb2⟩
      have hxs' : xs.length = st.length := by rw [hxs]; omega
      have h_L2 : upd H' R (.lst (intL xs)) L = some (.lst (refL rs)) := by rw [upd_ne hRL.symm]; exact h_L
      refine ⟨_, rfl, .inl ⟨rfl, _, SqL.of h_L2⟩, _, rfl, L, _, _, rfl, rfl, h_L2, (by rw [refs_len, hR.len, hcl]; exact small1000 (by omega)), ?_⟩
      have hLr2 : L ∉ rs ++ [R] := by
        rw [List.mem_append]
        rintro (z | z)
        · exact hLr z
        · exact hRL (List.mem_singleton.mp z).symm
      have hbx : ∀ i : Nat, 0 ≤ xs.getD i 0 ∧ xs.getD i 0 ≤ st.getD i 0 := fun i => by
        by_cases hi : i < st.length
        · exact hb2 i (by omega)
        · rw [List.getD_eq_getElem?_getD, List.getElem?_eq_none (by omega), List.getD_eq_getElem?_getD, List.getElem?_eq_none (by omega)]
          exact ⟨Int.le_refl _, Int.le_refl _⟩
      refine ⟨_, _, _, _, rs ++ [R], css ++ [xs], rfl, same_upd (same_upd sm (sm.free hRn)) hL, hLr2, by rw [upd_same, refs_snoc], ?_, by simp [hcl], fun x hx => ?_⟩
      · exact Rows.updt (Rows.snoc (Rows.updt hR hRrs) upd_same) hLr2
      · rcases List.mem_append.mp hx with z | z
        · exact hok x z
        · rw [List.mem_singleton.mp z]
          exact ⟨hxs', nonneg_of_at fun i => (hbx i).1, (fits_iff hxs').mpr fun i => (hbx i).2⟩
  · rintro σ' H' ⟨p6, p7, p8, p9, rs, css, rfl, sm, hLr, h_L, hR, hcl, hok⟩
    exact ⟨_, rfl, q H' L rs css sm hL h_L hR (by rw [hcl]; omega) hok⟩

def DeedClr (P : Addr) (H : Hp) (e : Addr) (d : Deed) : Prop := ∃ b, e ≠ P ∧ b ≠ P ∧ H e = some (.tup [.str d.word, .int d.wk, .ref b]) ∧ H b = some (.lst (intL d.am))
theorem DeedClr.same {P : Addr} {H H' : Hp} {e : Addr} {d : Deed} (h : DeedClr P H e d) (s : Same H H') : DeedClr P H' e d := let ⟨b, x, y, z, u⟩ := h; ⟨b, x, y, s _ _ z, s _ _ u⟩
theorem DeedClr.updt {P : Addr} {H : Hp} {e : Addr} {d : Deed} {o : HO} (h : DeedClr P H e d) : DeedClr P (upd H P o) e d := by
  obtain ⟨b, x, y, z, u⟩ := h
  exact ⟨b, x, y, by rw [upd_ne x]; exact z, by rw [upd_ne y]; exact u⟩
def DeedsClr (P : Addr) (H : Hp) (es : List Addr) (ds : List Deed) : Prop := es.length = ds.length ∧ ∀ (i : Nat) d, ds[i]? = some d → ∃ e, es[i]? = some e ∧ DeedClr P H e d
theorem DeedsClr.at {P : Addr} {H : Hp} {es : List Addr} {ds : List Deed} (h : DeedsClr P H es ds) : DeedsAt H es ds := ⟨h.1, fun i d e => let ⟨x, y, b, _, _, z, u⟩ := h.2 i d e; ⟨x, y, b, z, u⟩⟩
theorem DeedsClr.same {P : Addr} {H H' : Hp} {es : List Addr} {ds : List Deed} (h : DeedsClr P H es ds) (s : Same H H') : DeedsClr P H' es ds := ⟨h.1, fun i d e => let ⟨x, y, z⟩ := h.2 i d e; ⟨x, y, z.same s⟩⟩
theorem DeedsClr.updt {P : Addr} {H : Hp} {es : List Addr} {ds : List Deed} {o : HO} (h : DeedsClr P H es ds) : DeedsClr P (upd H P o) es ds := ⟨h.1, fun i d e => let ⟨x, y, z⟩ := h.2 i d e; ⟨x, y, z.updt⟩⟩
theorem DeedsClr.snoc {P : Addr} {H : Hp} {es : List Addr} {ds : List Deed} {e : Addr} {d : Deed} (h : DeedsClr P H es ds) (hp : DeedClr P H e d) : DeedsClr P H (es ++ [e]) (ds ++ [d]) := by
  refine ⟨by simp [h.1], fun i q eq => ?_⟩
  by_cases hi : i < ds.length
  · rw [List.getElem?_append_left hi] at eq
    rw [List.getElem?_append_left (by rw [h.1]; exact hi)]
    exact h.2 i q eq
  · rw [List.getElem?_append_right (by omega)] at eq
    have hi' : i = ds.length := by
      have := (List.getElem?_eq_some_iff.mp eq).1
      simp at this
      omega
    subst hi'
    rw [List.getElem?_append_right (by rw [h.1]; exact Nat.le_refl _), h.1]
    simp at eq
    subst eq
    exact ⟨e, by simp, hp⟩
theorem pick5 (i : Int) (h0 : 0 ≤ i) (h1 : i < 5) : ∃ v, atI [V.int 0, V.int 1, V.int 1, V.int 2, V.int 3] i = some (.int v) ∧ 0 ≤ v ∧ v ≤ 3 := by
  have : i = 0 ∨ i = 1 ∨ i = 2 ∨ i = 3 ∨ i = 4 := by omega
  rcases this with rfl | rfl | rfl | rfl | rfl
  · exact ⟨0, rfl, by decide, by decide⟩
  · exact ⟨1, rfl, by decide, by decide⟩
  · exact ⟨1, rfl, by decide, by decide⟩
  · exact ⟨2, rfl, by decide, by decide⟩
  · exact ⟨3, rfl, by decide, by decide⟩
theorem pick3v (x y z i : Int) (h0 : 0 ≤ i) (h1 : i < 3) : ∃ v, atI [V.int x, V.int y, V.int z] i = some (.int v) := by
  have : i = 0 ∨ i = 1 ∨ i = 2 := by omega
  rcases this with rfl | rfl | rfl
  · exact ⟨x, rfl⟩
  · exact ⟨y, rfl⟩
  · exact ⟨z, rfl⟩
def spDeeds (K : PySem.W.Frag) : Sp := fun vs H Q _ => ∃ (a c : Addr) (ms sv : List Int) (n cnt : Nat), vs = [.ref a, .int (n : Int), .int (cnt : Int), .ref c] ∧ SqL K H a (intL ms) ∧ SqL K H c (intL sv) ∧ 1 ≤ n ∧ n ≤ 1000 ∧ 1 ≤ cnt ∧ sv.length = n ∧ ms.length ≤ 1000 ∧
  ∀ H' L es ds, Same H H' → H L = none → H' L = some (.lst (refL es)) → DeedsAt H' es ds → ds.length = ms.length → (∀ d ∈ ds, d.am.length = n) → Q (.ref L) H'
theorem ok__law_deeds (bi : BI mg) {ca : CA} (ck : CK K mg ca)
    {f : Addr} {fd : FuncData} (F : Fun K "_law_deeds" "_law_deeds" s__law_deeds f fd) : FnOk P w K mg base CX0 2 f fd ["_law_cells", "_law_kinds", "_law_count", "_law_scale"] (spDeeds K) := by
  refine F.ok sc__law_deeds (fun vs H Q E h => ?_) (fun cdv A outer s H vs Q E hr h => ?_)
  · obtain ⟨a, c, ms, sv, n, cnt, rfl, _⟩ := h
    rfl
  obtain ⟨a, c, ms, sv, n, cnt, rfl, ha, hc, hn1, hn2, hcn, hsl, hml, q⟩ := h
  refine ⟨_, (pss_cons (ps_set (i := 4) sc__law_deeds.nd rfl (Or.inl rfl) (pe_lst pa_nil)) (pss_cons (ps_for PassesOwn.never rfl (pi_range1 rfl bi.range (pa_cons (pe_callB (call_len_seqK (K := K) rfl) rfl bi.len PySem.boot_len (pa_cons (pv 0) pa_nil)) pa_nil)) (pg_name (i := 5) sc__law_deeds.nd rfl (Or.inl rfl)) (pss_cons (ps_set (i := 6) sc__law_deeds.nd rfl (Or.inl rfl) (pe_ix (ix_listK (K := K) rfl) (pv 0) (pv 5) (fun _ _ => rfl))) (pss_cons (ps_set (i := 7) sc__law_deeds.nd rfl (Or.inl rfl) (pe_ix (ix_listK (K := K) rfl) (pv 0) (pe_op op_mod (pe_op op_add (pv 5) pe_int) (pe_callB (call_len_seqK (K := K) rfl) rfl bi.len PySem.boot_len (pa_cons (pv 0) pa_nil))) (fun _ _ => rfl))) (pss_cons (ps_set (i := 8) sc__law_deeds.nd rfl (Or.inl rfl) (pe_op op_mod (pe_op op_add (pe_op op_fdiv (pv 6) pe_int) (pv 5)) (pv 2))) (pss_cons (ps_set (i := 9) sc__law_deeds.nd rfl (Or.inl rfl) (pe_lst (pa_cons pe_int (pa_cons pe_int (pa_cons pe_int (pa_cons pe_int (pa_cons pe_int pa_nil))))))) (pss_cons (ps_set (i := 10) sc__law_deeds.nd rfl (Or.inl rfl) (pe_lst pa_nil)) (pss_cons (ps_for PassesOwn.never rfl (pi_range1 rfl bi.range (pa_cons (pv 1) pa_nil)) (pg_name (i := 11) sc__law_deeds.nd rfl (Or.inl rfl)) (pss_cons (ps_set (i := 12) sc__law_deeds.nd rfl (Or.inl rfl) (pe_op op_add (pe_op op_fdiv (pe_ix (ix_listK (K := K) rfl) (pv 0) (pe_op op_mod (pe_op op_add (pe_op op_add (pv 5) pe_int) (pv 11)) (pe_callB (call_len_seqK (K := K) rfl) rfl bi.len PySem.boot_len (pa_cons (pv 0) pa_nil))) (fun _ _ => rfl)) (pe_op op_add (pv 11) pe_int)) (pv 5))) (pss_one (ps_expr (pe_appendK (K := K) rfl (pv 10) (pa_cons (pe_op op_mul (pe_ix (ix_listK (K := K) rfl) (pv 9) (pe_op op_mod (pv 12) pe_int) (fun _ _ => rfl)) (pe_ix (ix_listK (K := K) rfl) (pv 3) (pv 11) (fun _ _ => rfl))) pa_nil)))))) (pss_cons (ps_if (pt_cmpR op_eq (pe_op op_mod (pv 6) pe_int) pe_int (nomark _)) (pss_one (ps_asg (pe_callB (call_max2 rfl) rfl bi.max BootN.max (pa_cons pe_int (pa_cons (pe_op op_sub (pe_ix (ix_listK (K := K) rfl) (pv 10) pe_int (fun _ _ => rfl)) pe_int) pa_nil))) (pg_sub (pv 10) pe_int set_list))) pss_nil) (pss_cons (ps_if (pt_cmpR op_eq (pe_op op_mod (pv 6) pe_int) pe_int (nomark _)) (pss_one (ps_asg (pe_op op_pow pe_int pe_int) (pg_sub (pv 10) pe_int set_list))) pss_nil) (pss_cons (ps_if (pt_cmpR op_eq (pe_op op_mod (pv 6) pe_int) pe_int (nomark _)) (pss_one (ps_set (i := 8) sc__law_deeds.nd rfl (Or.inl rfl) (pe_ix (ix_listK (K := K) rfl) (pe_lst (pa_cons (pv 2) (pa_cons (pe_op op_pow pe_int pe_int) (pa_cons (pe_un un_neg pe_int) pa_nil)))) (pe_op op_mod (pv 7) pe_int) (fun _ _ => rfl)))) pss_nil) (pss_cons (ps_if (PW.pt (pw_or (pt_cmpR op_eq (pe_op op_mod (pv 6) pe_int) pe_int (nomark _)) (pw_or1 (PW.pt (pw_and (pt_cmpR op_eq (pe_op op_mod (pv 6) pe_int) pe_int (nomark _)) (pw_and1 (pt_cmpR op_eq (pe_op op_mod (pe_op op_fdiv (pv 7) pe_int) pe_int) pe_int (nomark _)))))))) (pss_one (ps_asg (pe_un un_neg pe_int) (pg_sub (pv 10) (pe_op op_sub (pv 1) pe_int) set_list))) pss_nil) (pss_one (ps_expr (pe_appendK (K := K) rfl (pv 4) (pa_cons (pe_tup (pa_cons (pe_ix (ix_listK (K := K) rfl) (pe_lst (pa_cons pe_str (pa_cons pe_str pa_nil))) (pe_callTy call_int1 rfl bi.int BootN.int (pa_cons (pe_cmpR op_gt (pe_op op_mod (pv 6) pe_int) pe_int (nomark _)) pa_nil)) (fun _ _ => rfl)) (pa_cons (pv 8) (pa_cons (pv 10) pa_nil)))) pa_nil))))))))))))))) (pss_one (ps_ret (pv 4))))), ?_⟩
  refine ⟨(by show 0 ≤ sizeLine; decide), fun L hL => ?_⟩
  have s1 := same_new hL (.lst [])
  have hlm : (((intL ms).length : Nat) : Int) = (ms.length : Int) := by rw [ints_len]
  refine ⟨_, rfl, a, _, rfl, .inl (s1.seq ha), _, rfl, by omega, by omega, ?_⟩
  refine for_range0 (fun k σ' H' => ∃ p5 p6 p7 p8 p9 p10 p11 p12 es ds, σ' = [some (.ref a), some (.int (n : Int)), some (.int (cnt : Int)), some (.ref c), some (.ref L), p5, p6, p7, p8, p9, p10, p11, p12] ∧ Same H H' ∧ H' L = some (.lst (refL es)) ∧ DeedsClr L H' es ds ∧ ds.length = k ∧ ∀ d ∈ ds, d.am.length = n)
    ⟨none, none, none, none, none, none, none, none, [], [], rfl, s1, upd_same, ⟨rfl, fun i d e => by simp at e⟩, rfl, by simp⟩ ?_ ?_
  · rintro k σ' H' hk ⟨p5, p6, p7, p8, p9, p10, p11, p12, es, ds, rfl, sm, h_L, hD, hdl, hdn⟩
    have hk' : k < ms.length := by omega
    have hm0 : 0 < ms.length := by omega
    refine ⟨_, rfl, _, rfl, a, _, _, _, rfl, rfl, sm.seq ha, atI_ints hk', ?_⟩
    generalize ms.getD k 0 = cell
    obtain ⟨k1, hk1, hk1l⟩ := mod_ix (x := (k : Int) + 1) hm0
    refine ⟨_, rfl, _, rfl, _, _, rfl, rfl, _, rfl, a, _, rfl, .inl (sm.seq ha), _, _, rfl, rfl, (by rw [hlm]; omega), a, _, _, _, rfl, rfl, sm.seq ha, (by rw [hlm, hk1]; exact atI_ints hk1l), ?_⟩
    generalize ms.getD k1 0 = near
    refine ⟨_, rfl, _, _, rfl, rfl, ⟨by decide, by decide⟩, _, rfl, _, _, rfl, rfl, _, rfl, _, _, rfl, rfl, (by omega), ?_⟩
    dsimp only
    generalize (cell / 8 + (k : Int)) % (cnt : Int) = wk0
    refine ⟨(by show 5 ≤ sizeLine; decide), fun Mn hMn => ?_⟩
    have t1 := same_new hMn (.lst [.int 0, .int 1, .int 1, .int 2, .int 3])
    refine ⟨(by show 0 ≤ sizeLine; decide), fun Am hAm => ?_⟩
    have hMn' := upd_same (H := H') (a := Mn) (o := .lst [.int 0, .int 1, .int 1, .int 2, .int 3])
    generalize upd H' Mn (.lst [.int 0, .int 1, .int 1, .int 2, .int 3]) = H1 at *
    have s01 := sm.trans t1
    have hAL : Am ≠ L := fun e => by rw [e, t1 _ _ h_L] at hAm; cases hAm
    refine ⟨_, rfl, _, rfl, by omega, by omega, ?_⟩
    refine for_range0 (fun j σ2 H4 => ∃ p11 p12 xs, σ2 = [some (.ref a), some (.int (n : Int)), some (.int (cnt : Int)), some (.ref c), some (.ref L), some (.int (k : Int)), some (.int cell), some (.int near), some (.int wk0), some (.ref Mn), some (.ref Am), p11, p12] ∧ H4 = upd H1 Am (.lst (intL xs)) ∧ xs.length = j)
      ⟨p11, p12, [], rfl, rfl, rfl⟩ ?_ ?_
    · rintro j σ2 H4 hj ⟨p11, p12, xs, rfl, rfl, hxs⟩
      have s4 := same_upd (o := .lst (intL xs)) s01 (s01.free hAm)
      have u4 : Same H1 (upd H1 Am (.lst (intL xs))) := same_new hAm _
      obtain ⟨k2, hk2, hk2l⟩ := mod_ix (x := (k : Int) + 1 + (j : Int)) hm0
      refine ⟨_, rfl, _, rfl, _, _, rfl, rfl, _, rfl, _, _, rfl, rfl, _, rfl, a, _, rfl, .inl (s4.seq ha), _, _, rfl, rfl, (by rw [hlm]; omega), a, _, _, _, rfl, rfl, s4.seq ha, (by rw [hlm, hk2]; exact atI_ints hk2l), _, rfl, _, _, rfl, rfl, _, _, rfl, rfl, ⟨by omega, by omega⟩, _, rfl, _, _, rfl, rfl, ?_⟩
      dsimp only
      generalize ms.getD k2 0 / ((j : Int) + 1) + (k : Int) = pk
      obtain ⟨v, hv, hv0, hv3⟩ := pick5 (pk % 5) (Int.emod_nonneg _ (by decide)) (Int.emod_lt_of_pos _ (by decide))
      refine ⟨_, rfl, .inl ⟨rfl, _, SqL.of upd_same⟩, _, rfl, _, rfl, _, _, rfl, rfl, (by show (0 : Int) < _; decide), Mn, _, _, _, rfl, rfl, SqL.of (u4 _ _ hMn'), hv, _, rfl, _, rfl, c, _, _, _, rfl, rfl, s4.seq hc, atI_ints (by omega), _, _, rfl, rfl, .inl ⟨by omega, by omega⟩, Am, _, _, rfl, rfl, upd_same, (by rw [ints_len, hxs]; exact small1000 (by omega)), ?_⟩
      dsimp only
      exact ⟨_, _, xs ++ [_], rfl, by rw [upd_upd, ints_snoc], by simp [hxs]⟩
    rintro σ2 H4 ⟨p11, p12, xs, rfl, rfl, hxs⟩
    rw [Int.toNat_natCast] at hxs
    have hA1 : H1 Am = none := hAm
    have key : ∀ σ3 H5, (∃ wk xs, σ3 = [some (.ref a), some (.int (n : Int)), some (.int (cnt : Int)), some (.ref c), some (.ref L), some (.int (k : Int)), some (.int cell), some (.int near), some (.int wk), some (.ref Mn), some (.ref Am), p11, p12] ∧ Same H1 H5 ∧ H5 Am = some (.lst (intL xs)) ∧ xs.length = n) →
      (∃ wk xs, σ3 = [some (.ref a), some (.int (n : Int)), some (.int (cnt : Int)), some (.ref c), some (.ref L), some (.int (k : Int)), some (.int cell), some (.int near), some (.int wk), some (.ref Mn), some (.ref Am), p11, p12] ∧ Same H1 H5 ∧ H5 Am = some (.lst (intL xs)) ∧ xs.length = n) := fun _ _ h => h
    have h00 : 0 < xs.length := by omega
    try dsimp only
    refine seq_any (fun σ3 H5 => ∃ wk xs, σ3 = [some (.ref a), some (.int (n : Int)), some (.int (cnt : Int)), some (.ref c), some (.ref L), some (.int (k : Int)), some (.int cell), some (.int near), some (.int wk), some (.ref Mn), some (.ref Am), p11, p12] ∧ Same H1 H5 ∧ H5 Am = some (.lst (intL xs)) ∧ xs.length = n) (fun N hN => ?_) ?_
    · refine ⟨_, rfl, _, _, rfl, rfl, (by show (0 : Int) < _; decide), rfl, _, rfl, ite2 (fun c => ?_) (fun c => ?_)⟩
      · refine ⟨_, rfl, Am, _, _, _, rfl, rfl, SqL.of upd_same, atI_ints (i := 0) h00, _, _, rfl, rfl, _, _, rfl, _, rfl, Am, _, _, 0, rfl, rfl, upd_same, ixN_nat (i := 0) (by rw [ints_len]; exact h00), ?_⟩
        exact hN _ _ ⟨_, xs.set 0 _, rfl, by rw [upd_upd]; exact same_new hAm _, by rw [upd_same, ints_set], by rw [List.length_set]; exact hxs⟩
      · exact hN _ _ ⟨_, xs, rfl, same_new hAm _, upd_same, hxs⟩
    rintro σ3 H5 ⟨wk1, xs1, rfl, s5, h_A5, hxs1⟩
    try dsimp only
    refine seq_any (fun σ3 H5 => ∃ wk xs, σ3 = [some (.ref a), some (.int (n : Int)), some (.int (cnt : Int)), some (.ref c), some (.ref L), some (.int (k : Int)), some (.int cell), some (.int near), some (.int wk), some (.ref Mn), some (.ref Am), p11, p12] ∧ Same H1 H5 ∧ H5 Am = some (.lst (intL xs)) ∧ xs.length = n) (fun N hN => ?_) ?_
    · refine ⟨_, rfl, _, _, rfl, rfl, (by show (0 : Int) < _; decide), rfl, _, rfl, ite2 (fun c => ?_) (fun c => ?_)⟩
      · refine ⟨_, _, rfl, rfl, ⟨by decide, by decide, by decide⟩, _, rfl, Am, _, _, 0, rfl, rfl, h_A5, ixN_nat (i := 0) (by rw [ints_len]; omega), ?_⟩
        exact hN _ _ ⟨_, xs1.set 0 _, rfl, same_upd s5 hA1, by rw [upd_same, ints_set], by rw [List.length_set]; exact hxs1⟩
      · exact hN _ _ ⟨_, xs1, rfl, s5, h_A5, hxs1⟩
    rintro σ3 H6 ⟨wk2, xs2, rfl, s6, h_A6, hxs2⟩
    try dsimp only
    refine seq_any (fun σ3 H5 => ∃ wk xs, σ3 = [some (.ref a), some (.int (n : Int)), some (.int (cnt : Int)), some (.ref c), some (.ref L), some (.int (k : Int)), some (.int cell), some (.int near), some (.int wk), some (.ref Mn), some (.ref Am), p11, p12] ∧ Same H1 H5 ∧ H5 Am = some (.lst (intL xs)) ∧ xs.length = n) (fun N hN => ?_) ?_
    · refine ⟨_, rfl, _, _, rfl, rfl, (by show (0 : Int) < _; decide), rfl, _, rfl, ite2 (fun c => ?_) (fun c => ?_)⟩
      · refine ⟨_, rfl, _, _, rfl, rfl, ⟨by decide, by decide, by decide⟩, _, rfl, (by show 3 ≤ sizeLine; decide), fun Z hZ => ?_⟩
        obtain ⟨v, hv⟩ := pick3v (cnt : Int) ((10 : Int) ^ (9 : Int).toNat) (-1) (near % 3) (Int.emod_nonneg _ (by decide)) (Int.emod_lt_of_pos _ (by decide))
        refine ⟨_, rfl, _, _, rfl, rfl, (by show (0 : Int) < _; decide), Z, _, _, _, rfl, rfl, SqL.of upd_same, hv, ?_⟩
        exact hN _ _ ⟨v, xs2, rfl, s6.trans (same_new hZ _), (same_new hZ _) _ _ h_A6, hxs2⟩
      · exact hN _ _ ⟨_, xs2, rfl, s6, h_A6, hxs2⟩
    rintro σ3 H7 ⟨wk3, xs3, rfl, s7, h_A7, hxs3⟩
    try dsimp only
    refine seq_any (fun σ3 H5 => ∃ wk xs, σ3 = [some (.ref a), some (.int (n : Int)), some (.int (cnt : Int)), some (.ref c), some (.ref L), some (.int (k : Int)), some (.int cell), some (.int near), some (.int wk), some (.ref Mn), some (.ref Am), p11, p12] ∧ Same H1 H5 ∧ H5 Am = some (.lst (intL xs)) ∧ xs.length = n) (fun N hN => ?_) ?_
    · have setl : N [some (.ref a), some (.int (n : Int)), some (.int (cnt : Int)), some (.ref c), some (.ref L), some (.int (k : Int)), some (.int cell), some (.int near), some (.int wk3), some (.ref Mn), some (.ref Am), p11, p12] (upd H7 Am (.lst ((intL xs3).set (n - 1) (.int (-1))))) :=
        hN _ _ ⟨_, xs3.set (n - 1) (-1), rfl, same_upd s7 hA1, by rw [upd_same, ints_set], by rw [List.length_set]; exact hxs3⟩
      have keep := hN _ _ ⟨wk3, xs3, rfl, s7, h_A7, hxs3⟩
      have en : ((n : Int) - 1) = ((n - 1 : Nat) : Int) := by omega
      have hix : ixN (intL xs3).length ((n : Int) - 1) = some (n - 1) := by rw [en]; exact ixN_nat (by rw [ints_len]; omega)
      refine ⟨_, rfl, _, _, rfl, rfl, (by show (0 : Int) < _; decide), rfl, _, rfl, ite2 (fun c1 => ?_) (fun c1 => ?_)⟩
      · refine iteT ?_
        exact ⟨_, rfl, _, rfl, _, rfl, _, _, rfl, rfl, Am, _, _, n - 1, rfl, rfl, h_A7, hix, setl⟩
      · refine ⟨_, rfl, _, _, rfl, rfl, (by show (0 : Int) < _; decide), rfl, _, rfl, ite2 (fun c2 => ?_) (fun c2 => ?_)⟩
        · refine ⟨_, rfl, _, _, rfl, rfl, ⟨by decide, by decide⟩, _, _, rfl, rfl, (by show (0 : Int) < _; decide), rfl, _, rfl, ite2 (fun c3 => ?_) (fun c3 => ?_)⟩
          · exact ⟨_, rfl, _, rfl, _, rfl, _, _, rfl, rfl, Am, _, _, n - 1, rfl, rfl, h_A7, hix, setl⟩
          · exact keep
        · exact iteF keep
    rintro σ3 H8 ⟨wk4, xs4, rfl, s8, h_A8, hxs4⟩
    have h_L8 := s8 _ _ (t1 _ _ h_L)
    have hes : es.length ≤ 1000 := by rw [hD.1, hdl]; omega
    refine ⟨_, rfl, .inl ⟨rfl, _, SqL.of h_L8⟩, (by show 2 ≤ sizeLine; decide), fun Z hZ => ?_⟩
    have u1 := same_new hZ (.lst [.str "ask", .str "give"])
    refine ⟨_, rfl, _, _, rfl, rfl, (by show (0 : Int) < _; decide), _, _, rfl, rfl, .inr ⟨_, rfl, Z, _, _, _, rfl, rfl, SqL.of upd_same, pickB _ _ _, ?_⟩⟩
    refine ⟨_, rfl, _, rfl, (by show 3 ≤ sizeLine; decide), fun T hT => ?_⟩
    try dsimp only
    generalize hbb : decide ((4 : Int) < cell % 8) = bb
    have hword : (if bb = true then V.str "give" else V.str "ask") = V.str (Deed.word ⟨!bb, wk4, xs4⟩) := by cases bb <;> rfl
    rw [hword]
    have u2 := same_new hT (.tup [.str (Deed.word ⟨!bb, wk4, xs4⟩), .int wk4, .ref Am])
    have h_L9 := u2 _ _ (u1 _ _ h_L8)
    have hTL : T ≠ L := fun e => by rw [e, u1 _ _ h_L8] at hT; cases hT
    refine ⟨L, _, _, rfl, rfl, h_L9, (by rw [refs_len]; exact small1000 hes), ?_⟩
    refine ⟨_, _, _, _, _, _, _, _, es ++ [T], ds ++ [⟨!bb, wk4, xs4⟩], rfl, same_upd (s01.trans (s8.trans (u1.trans u2))) hL, by rw [upd_same, refs_snoc], ?_, by simp [hdl], fun d hd => ?_⟩
    · exact DeedsClr.updt (DeedsClr.snoc (hD.same (t1.trans (s8.trans (u1.trans u2)))) ⟨Am, hTL, hAL, upd_same, u2 _ _ (u1 _ _ h_A8)⟩)
    · rcases List.mem_append.mp hd with z | z
      · exact hdn d z
      · rw [List.mem_singleton.mp z]; exact hxs4
  · rintro σ' H' ⟨p5, p6, p7, p8, p9, p10, p11, p12, es, ds, rfl, sm, h_L, hD, hdl, hdn⟩
    exact ⟨_, rfl, q H' L es ds sm hL h_L hD.at (by rw [hdl]; omega) hdn⟩

def spSame (K : PySem.W.Frag) : Sp := fun vs H Q _ => ∃ (a b : Addr) (es qs : List Addr) (ds : List Deed), vs = [.ref a, .ref b] ∧ SqL K H a (refL es) ∧ SqL K H b (refL qs) ∧ DeedsAt H es ds ∧ DeedsAt H qs ds ∧ ds.length ≤ 1000 ∧ (∀ d ∈ ds, d.am.length ≤ 1000) ∧ Q (.bl true) H
theorem ok__law_same (bi : BI mg) {ca : CA} (ck : CK K mg ca)
    (c__law_whole : Callee P w K mg base "_law_whole" 2 ["_law_found"] (spWhole K))
    (c__law_numbers : Callee P w K mg base "_law_numbers" 3 ["_law_found", "_law_due"] (spNum K))
    {f : Addr} {fd : FuncData} (F : Fun K "_law_same" "_law_same" s__law_same f fd) : FnOk P w K mg base CX0 4 f fd ["_law_handed", "_law_asked"] (spSame K) := by
  refine F.ok sc__law_same (fun vs H Q E h => ?_) (fun cdv A outer s H vs Q E hr h => ?_)
  · obtain ⟨a, b, es, qs, ds, rfl, _⟩ := h
    rfl
  obtain ⟨a, b, es, qs, ds, rfl, ha, hb, hE, hQ, hz, hz2, q⟩ := h
  refine ⟨_, (pss_cons (ps_if (pt_cmpR op_ne (pe_callB (call_len_seqK (K := K) rfl) rfl bi.len PySem.boot_len (pa_cons (pv 0) pa_nil)) (pe_callB (call_len_seqK (K := K) rfl) rfl bi.len PySem.boot_len (pa_cons (pv 1) pa_nil)) (nomark _)) (pss_one (ps_ret pe_bl)) pss_nil) (pss_cons (ps_for PassesOwn.never rfl (pi_range1 rfl bi.range (pa_cons (pe_callB (call_len_seqK (K := K) rfl) rfl bi.len PySem.boot_len (pa_cons (pv 1) pa_nil)) pa_nil)) (pg_name (i := 2) sc__law_same.nd rfl (Or.inl rfl)) (pss_cons (ps_set (i := 3) sc__law_same.nd rfl (Or.inl rfl) (pe_ix (ix_listK (K := K) rfl) (pv 0) (pv 2) (fun _ _ => rfl))) (pss_cons (ps_if (PW.pt (pw_or (pt_not (pt_val (pe_callB (call_isiK (K := K) rfl) rfl bi.isinstance BootN.isinstance (pa_cons (pv 3) (pa_cons (pe_bltn (v := .ty "tuple") rfl bi.tuple BootN.tuple rfl) pa_nil))))) (pw_or (pt_cmpR op_ne (pe_callB (call_len_seqK (K := K) rfl) rfl bi.len PySem.boot_len (pa_cons (pv 3) pa_nil)) pe_int (nomark _)) (pw_or1 (pt_not (pt_val (pe_callB (call_isiK (K := K) rfl) rfl bi.isinstance BootN.isinstance (pa_cons (pe_ix (ix_tupK (K := K) rfl) (pv 3) pe_int (fun _ _ => rfl)) (pa_cons (pe_bltn (v := .ty "str") rfl bi.str BootN.str rfl) pa_nil))))))))) (pss_one (ps_ret pe_bl)) pss_nil) (pss_cons (ps_if (PW.pt (pw_or (pt_not (pt_val (pe_calln c__law_whole hr (by decide) rfl (pa_cons (pe_ix (ix_tupK (K := K) rfl) (pv 3) pe_int (fun _ _ => rfl)) pa_nil)))) (pw_or1 (pt_not (pt_val (pe_calln c__law_numbers hr (by decide) rfl (pa_cons (pe_ix (ix_tupK (K := K) rfl) (pv 3) pe_int (fun _ _ => rfl)) (pa_cons (pe_ix (ix_tupK (K := K) rfl) (pe_ix (ix_listK (K := K) rfl) (pv 1) (pv 2) (fun _ _ => rfl)) pe_int (fun _ _ => rfl)) pa_nil)))))))) (pss_one (ps_ret pe_bl)) pss_nil) (pss_one (ps_if (PW.pt (pw_or (pt_cmpR op_ne (pe_ix (ix_tupK (K := K) rfl) (pv 3) pe_int (fun _ _ => rfl)) (pe_ix (ix_tupK (K := K) rfl) (pe_ix (ix_listK (K := K) rfl) (pv 1) (pv 2) (fun _ _ => rfl)) pe_int (fun _ _ => rfl)) (nomark _)) (pw_or1 (pt_cmpR op_ne (pe_ix (ix_tupK (K := K) rfl) (pv 3) pe_int (fun _ _ => rfl)) (pe_ix (ix_tupK (K := K) rfl) (pe_ix (ix_listK (K := K) rfl) (pv 1) (pv 2) (fun _ _ => rfl)) pe_int (fun _ _ => rfl)) (nomark _))))) (pss_one (ps_ret pe_bl)) pss_nil)))))) (pss_one (ps_ret pe_bl)))), ?_⟩
  have e1 : (refL es).length = (refL qs).length := by rw [refs_len, refs_len, hE.1, hQ.1]
  refine ⟨_, rfl, a, _, rfl, .inl ha, _, rfl, b, _, rfl, .inl hb, rfl, _, rfl, iteNS (by rw [e1]) ?_⟩
  refine ⟨_, rfl, b, _, rfl, .inl hb, _, rfl, by omega, by rw [refs_len, hQ.1]; omega, ?_⟩
  refine for_range0 (fun i σ' H' => (∃ p r, σ' = [some (.ref a), some (.ref b), p, r]) ∧ H' = H) ⟨⟨_, _, rfl⟩, rfl⟩ ?_ ?_
  · rintro i σ' H' hi ⟨⟨p, r, rfl⟩, rfl⟩
    have hi' : i < ds.length := by rw [refs_len, hQ.1] at hi; omega
    have hdi : ds[i]? = some ds[i] := List.getElem?_eq_getElem hi'
    obtain ⟨e, ee, g, he, hg⟩ := hE.2 i _ hdi
    obtain ⟨e2, ee2, g2, he2, hg2⟩ := hQ.2 i _ hdi
    refine ⟨_, rfl, _, rfl, a, _, _, _, rfl, rfl, ha, atI_refs ee, ?_⟩
    refine ⟨_, rfl, _, _, _, _, rfl, .tup he, rfl, _, rfl, iteF ?_⟩
    refine ⟨_, rfl, e, _, rfl, .inr (SqT.of he), rfl, _, rfl, iteNS rfl ?_⟩
    refine ⟨_, rfl, e, _, _, _, rfl, rfl, SqT.of he, rfl, _, _, _, _, rfl, .str _, rfl, _, rfl, iteF ?_⟩
    refine ⟨_, rfl, e, _, _, _, rfl, rfl, SqT.of he, rfl, _, rfl, _, rfl, iteF ?_⟩
    refine ⟨_, rfl, e, _, _, _, rfl, rfl, SqT.of he, rfl, _, rfl, _, rfl, b, _, _, _, rfl, rfl, hb, atI_refs ee2, e2, _, _, _, rfl, rfl, SqT.of he2, rfl, g, g2, ds[i].am, rfl, hg, hg2, hz2 _ (List.getElem_mem hi'), _, rfl, iteF ?_⟩
    refine ⟨_, rfl, e, _, _, _, rfl, rfl, SqT.of he, rfl, _, rfl, _, rfl, b, _, _, _, rfl, rfl, hb, atI_refs ee2, e2, _, _, _, rfl, rfl, SqT.of he2, rfl, rfl, _, rfl, iteNS rfl ?_⟩
    refine ⟨_, rfl, e, _, _, _, rfl, rfl, SqT.of he, rfl, _, rfl, _, rfl, b, _, _, _, rfl, rfl, hb, atI_refs ee2, e2, _, _, _, rfl, rfl, SqT.of he2, rfl, rfl, _, rfl, iteNS rfl ?_⟩
    exact ⟨⟨_, _, rfl⟩, rfl⟩
  · rintro σ' H' ⟨⟨p, r, rfl⟩, rfl⟩
    exact q

def spAgain (K : PySem.W.Frag) : Sp := fun vs H Q _ => ∃ (a : Addr) (es : List Addr) (ds : List Deed), vs = [.ref a] ∧ SqL K H a (refL es) ∧ DeedsAt H es ds ∧ ds.length ≤ 1000 ∧
  ∀ H' L qs, Same H H' → H L = none → H' L = some (.lst (refL qs)) → DeedsAt H' qs ds → Q (.ref L) H'
theorem ok__law_again (bi : BI mg) {ca : CA} (ck : CK K mg ca)
    {f : Addr} {fd : FuncData} (F : Fun K "_law_again" "_law_again" s__law_again f fd) : FnOk P w K mg base CX0 2 f fd ["_law_asked"] (spAgain K) := by
  refine F.ok sc__law_again (fun vs H Q E h => ?_) (fun cdv A outer s H vs Q E hr h => ?_)
  · obtain ⟨a, es, ds, rfl, _⟩ := h
    rfl
  obtain ⟨a, es, ds, rfl, ha, hD, hz, q⟩ := h
  refine ⟨_, (pss_one (ps_ret (pe_comp (blk_mk (own := ["_law_deed"]) (caps := []) (js := []) rfl (by decide +kernel) (by decide +kernel) rfl trivial) rfl (pi_listK (K := K) rfl (pv 0)) (fun _ _ _ _ => (pg_name (i := 0) (show (["_law_deed"] : List Str).Nodup by decide +kernel) rfl (Or.inl rfl))) (fun _ _ _ _ => pif_nil) (fun _ _ _ _ => (pe_tup (pa_cons (pe_ix (ix_tupK (K := K) rfl) (pv 0) pe_int (fun _ _ => rfl)) (pa_cons (pe_ix (ix_tupK (K := K) rfl) (pv 0) pe_int (fun _ _ => rfl)) (pa_cons (pe_callTy (call_list_ofK (K := K) rfl) rfl bi.list BootN.list (pa_cons (pe_ix (ix_tupK (K := K) rfl) (pv 0) pe_int (fun _ _ => rfl)) pa_nil)) pa_nil)))))))), ?_⟩
  refine ⟨_, rfl, a, rfl, ⟨_, ha⟩, ?_⟩
  refine comp_list_refs (fun i r D H' => ∃ d b, ds[i]? = some d ∧ r ≠ D ∧ b ≠ D ∧ H' r = some (.tup [.str d.word, .int d.wk, .ref b]) ∧ H' b = some (.lst (intL d.am))) ha (by rw [refs_len, hD.1]; exact small hz)
    (fun i r D H H' ⟨d, b, h1, h2, h3, h4, h5⟩ e => ⟨d, b, h1, h2, h3, e _ _ h4, e _ _ h5⟩) (fun i r D H o ⟨d, b, h1, h2, h3, h4, h5⟩ => ⟨d, b, h1, h2, h3, by rw [upd_ne h2]; exact h4, by rw [upd_ne h3]; exact h5⟩) ?_ ?_
  · intro i x D o H' Kx hx sm hD0 hDo k
    rw [List.getElem?_map] at hx
    cases e1 : es[i]? with
    | none => rw [e1] at hx; cases hx
    | some e =>
      rw [e1] at hx
      cases hx
      have hi : i < ds.length := by rw [← hD.1]; exact (List.getElem?_eq_some_iff.mp e1).1
      obtain ⟨e', e2, b, he, hb⟩ := hD.2 i ds[i] (List.getElem?_eq_getElem hi)
      rw [e1] at e2
      cases e2
      refine ⟨_, rfl, e, _, _, _, rfl, rfl, SqT.of (sm _ _ he), rfl, _, rfl, e, _, _, _, rfl, rfl, SqT.of (sm _ _ he), rfl, _, rfl, e, _, _, _, rfl, rfl, SqT.of (sm _ _ he), rfl, b, _, rfl, .inl (SqL.of (sm _ _ hb)), fun B hB => ?_⟩
      have s2 := same_new hB (.lst (intL ds[i].am))
      refine ⟨(by show 3 ≤ sizeLine; decide), fun T hT => ?_⟩
      have s3 := same_new hT (.tup [.str ds[i].word, .int ds[i].wk, .ref B])
      refine k _ _ (s2.trans s3) ⟨ds[i], B, List.getElem?_eq_getElem hi, (fun e => by rw [e, s2 _ _ hDo] at hT; cases hT), (fun e => by rw [e, hDo] at hB; cases hB), upd_same, s3 _ _ upd_same⟩
  intro D H' ps hD0 sm hDs hpl hP
  rw [refs_len, hD.1] at hpl
  refine q H' D ps sm hD0 hDs ⟨hpl, fun i d e => ?_⟩
  have hi : i < ps.length := by rw [hpl]; exact (List.getElem?_eq_some_iff.mp e).1
  obtain ⟨d', b, h1, _, _, h4, h5⟩ := hP i ps[i] (List.getElem?_eq_getElem hi)
  rw [e] at h1
  cases h1
  exact ⟨ps[i], List.getElem?_eq_getElem hi, b, h4, h5⟩

def spLaw (K : PySem.W.Frag) : Sp := fun vs H Q _ => ∃ (a : Addr) (ns : List Int), vs = [.ref a] ∧ SqL K H a (intL ns) ∧ ns.length ≤ 63 ∧ ∀ H', Q (.bl true) H'
theorem range_at (n : Nat) (f : Nat → Int) (j : Nat) : ((List.range n).map f).getD j 0 = if j < n then f j else 0 := by
  by_cases h : j < n
  · rw [if_pos h, List.getD_eq_getElem?_getD, List.getElem?_map, List.getElem?_range h]; rfl
  · rw [if_neg h, List.getD_eq_getElem?_getD, List.getElem?_eq_none (by simp; omega)]; rfl

theorem ok_law (bi : BI mg) {ca : CA} (ck : CK K mg ca)
    (c__law_at : Callee P w K mg base "_law_at" 2 ["_law_script", "_law_k"] (spAt K))
    (c__law_wide : Callee P w K mg base "_law_wide" 2 ["_law_script", "_law_few", "_law_bound"] (spWide K))
    (c__law_scales : Callee P w K mg base "_law_scales" 2 ["_law_kinds", "_law_seed", "_law_way"] (spScales K))
    (c__law_reach : Callee P w K mg base "_law_reach" 2 ["_law_script", "_law_most", "_law_bound"] (spReach K))
    (c__law_claimed : Callee P w K mg base "_law_claimed" 2 ["_law_count", "_law_stock", "_law_cells", "_law_scale"] (spClaimed K))
    (c__law_deeds : Callee P w K mg base "_law_deeds" 2 ["_law_cells", "_law_kinds", "_law_count", "_law_scale"] (spDeeds K))
    (c__law_copy : Callee P w K mg base "_law_copy" 2 ["_law_rows"] (spCopy K))
    (c__law_again : Callee P w K mg base "_law_again" 2 ["_law_asked"] (spAgain K))
    (c_loans_behind : Callee P w K mg base "loans_behind" 9 ["stock", "claims", "deeds"] (spBehind K))
    (c__law_numbers : Callee P w K mg base "_law_numbers" 3 ["_law_found", "_law_due"] (spNum K))
    (c__law_tables : Callee P w K mg base "_law_tables" 4 ["_law_found", "_law_due"] (spTab K))
    (c__law_same : Callee P w K mg base "_law_same" 4 ["_law_handed", "_law_asked"] (spSame K))
    (c__law_judged : Callee P w K mg base "_law_judged" 5 ["_law_stock", "_law_claims", "_law_loans", "_law_deed"] (spJudge K))
    (c__law_changed : Callee P w K mg base "_law_changed" 3 ["_law_loans", "_law_deed", "_law_word"] (spChanged K))
    (c__law_sound : Callee P w K mg base "_law_sound" 5 ["_law_stock", "_law_claims", "_law_loans"] (spSound K))
    {f : Addr} {fd : FuncData} (F : Fun K "law" "law" s_law f fd) : FnOk P w K mg base CX0 10 f fd ["_law_script"] (spLaw K) := by
  refine F.ok sc_law (fun vs H Q E h => ?_) (fun cdv A0 outer s H vs Q E hr h => ?_)
  · obtain ⟨a, ns, rfl, _⟩ := h
    rfl
  obtain ⟨a, ns, rfl, hS, h63, q⟩ := h
  refine ⟨_, (pss_cons (ps_set (i := 1) sc_law.nd rfl (Or.inr rfl) (pe_calln c__law_at hr (by decide) rfl (pa_cons (pv 0) (pa_cons pe_int pa_nil)))) (pss_cons (ps_set (i := 2) sc_law.nd rfl (Or.inl rfl) (pe_op op_add pe_int (pe_op op_mod (pe_calln c__law_at hr (by decide) rfl (pa_cons (pv 0) (pa_cons pe_int pa_nil))) (pe_calln c__law_wide hr (by decide) rfl (pa_cons (pv 0) (pa_cons pe_int (pa_cons pe_int pa_nil))))))) (pss_cons (ps_set (i := 3) sc_law.nd rfl (Or.inr rfl) (pe_calln c__law_scales hr (by decide) rfl (pa_cons (pv 2) (pa_cons (pv 1) (pa_cons (pe_op op_mod (pe_op op_fdiv (pe_calln c__law_at hr (by decide) rfl (pa_cons (pv 0) (pa_cons pe_int pa_nil))) pe_int) pe_int) pa_nil))))) (pss_cons (ps_set (i := 4) sc_law.nd rfl (Or.inr rfl) (pe_comp (blk_mk (own := ["_law_j"]) (caps := ["_law_seed"]) (js := [1]) rfl (by decide +kernel) (by decide +kernel) rfl ⟨⟨rfl, rfl, .inr (.inl rfl)⟩, trivial⟩) rfl (pi_range1 rfl bi.range (pa_cons (pv 2) pa_nil)) (fun _ _ _ _ => (pg_name (i := 0) (show (["_law_j", "_law_seed"] : List Str).Nodup by decide +kernel) rfl (Or.inl rfl))) (fun _ _ _ _ => pif_nil) (fun _ _ _ _ => (pe_op op_add pe_int (pe_op op_mod (pe_op op_add (pe_op op_fdiv (pv 1) (pe_op op_add pe_int (pe_op op_mul pe_int (pv 0)))) (pv 0)) pe_int))))) (pss_cons (ps_set (i := 5) sc_law.nd rfl (Or.inr rfl) (pe_comp (blk_mk (own := ["_law_j"]) (caps := ["_law_scale", "_law_fills"]) (js := [3, 4]) rfl (by decide +kernel) (by decide +kernel) rfl ⟨⟨rfl, rfl, .inr (.inl rfl)⟩, ⟨⟨rfl, rfl, .inr (.inl rfl)⟩, trivial⟩⟩) rfl (pi_range1 rfl bi.range (pa_cons (pv 2) pa_nil)) (fun _ _ _ _ => (pg_name (i := 0) (show (["_law_j", "_law_scale", "_law_fills"] : List Str).Nodup by decide +kernel) rfl (Or.inl rfl))) (fun _ _ _ _ => pif_nil) (fun _ _ _ _ => (pe_op op_mul (pe_ix (ix_listK (K := K) rfl) (pv 2) (pv 0) (fun _ _ => rfl)) (pe_ix (ix_listK (K := K) rfl) (pv 1) (pv 0) (fun _ _ => rfl)))))) (pss_cons (ps_set (i := 6) sc_law.nd rfl (Or.inl rfl) (pe_op op_add pe_int (pe_op op_mod (pe_op op_fdiv (pe_calln c__law_at hr (by decide) rfl (pa_cons (pv 0) (pa_cons pe_int pa_nil))) pe_int) (pe_calln c__law_reach hr (by decide) rfl (pa_cons (pv 0) (pa_cons pe_int (pa_cons pe_int pa_nil))))))) (pss_cons (ps_if (pt_cmpR op_gt (pv 2) pe_int (nomark _)) (pss_one (ps_set (i := 6) sc_law.nd rfl (Or.inl rfl) (pe_op op_add pe_int (pe_op op_mod (pv 6) pe_int)))) pss_nil) (pss_cons (ps_set (i := 7) sc_law.nd rfl (Or.inl rfl) (pe_calln c__law_claimed hr (by decide) rfl (pa_cons (pv 6) (pa_cons (pv 5) (pa_cons (pe_op op_cat (pe_slice (sl_listK (K := K) rfl) (pv 0) (po_some pe_int) po_none) (pe_lst (pa_cons (pv 1) pa_nil))) (pa_cons (pv 3) pa_nil)))))) (pss_cons (ps_set (i := 8) sc_law.nd rfl (Or.inl rfl) (pe_calln c__law_deeds hr (by decide) rfl (pa_cons (pe_slice (sl_listK (K := K) rfl) (pv 0) (po_some pe_int) (po_some (pe_op op_add pe_int (pe_calln c__law_reach hr (by decide) rfl (pa_cons (pv 0) (pa_cons pe_int (pa_cons pe_int pa_nil))))))) (pa_cons (pv 2) (pa_cons (pv 6) (pa_cons (pv 3) pa_nil)))))) (pss_cons (ps_set (i := 9) sc_law.nd rfl (Or.inl rfl) (pe_callTy (call_list_ofK (K := K) rfl) rfl bi.list BootN.list (pa_cons (pv 5) pa_nil))) (pss_cons (ps_set (i := 10) sc_law.nd rfl (Or.inl rfl) (pe_calln c__law_copy hr (by decide) rfl (pa_cons (pv 7) pa_nil))) (pss_cons (ps_set (i := 11) sc_law.nd rfl (Or.inl rfl) (pe_calln c__law_again hr (by decide) rfl (pa_cons (pv 8) pa_nil))) (pss_cons (ps_set (i := 12) sc_law.nd rfl (Or.inl rfl) (pe_calln c_loans_behind hr (by decide) rfl (pa_cons (pv 9) (pa_cons (pv 10) (pa_cons (pv 11) pa_nil))))) (pss_cons (ps_if (PW.pt (pw_or (pt_not (pt_val (pe_calln c__law_numbers hr (by decide) rfl (pa_cons (pv 9) (pa_cons (pv 5) pa_nil))))) (pw_or1 (pt_not (pt_val (pe_calln c__law_tables hr (by decide) rfl (pa_cons (pv 10) (pa_cons (pv 7) pa_nil)))))))) (pss_one (ps_ret pe_bl)) pss_nil) (pss_cons (ps_if (pt_not (pt_val (pe_calln c__law_same hr (by decide) rfl (pa_cons (pv 11) (pa_cons (pv 8) pa_nil))))) (pss_one (ps_ret pe_bl)) pss_nil) (pss_cons (ps_if (PW.pt (pw_or (pt_not (pt_val (pe_callB (call_isiK (K := K) rfl) rfl bi.isinstance BootN.isinstance (pa_cons (pv 12) (pa_cons (pe_bltn (v := .ty "list") rfl bi.list BootN.list rfl) pa_nil))))) (pw_or1 (pt_cmpR op_ne (pe_callB (call_len_seqK (K := K) rfl) rfl bi.len PySem.boot_len (pa_cons (pv 12) pa_nil)) (pe_callB (call_len_seqK (K := K) rfl) rfl bi.len PySem.boot_len (pa_cons (pv 8) pa_nil)) (nomark _))))) (pss_one (ps_ret pe_bl)) pss_nil) (pss_cons (ps_setC (i := 13) sc_law.nd rfl (Or.inl rfl) (blk_mk (own := ["_law_claim"]) (caps := ["_law_stock"]) (js := [5]) rfl (by decide +kernel) (by decide +kernel) rfl ⟨⟨rfl, rfl, .inr (.inl rfl)⟩, trivial⟩) rfl (pi_listK (K := K) rfl (pv 7)) (fun _ _ _ _ => (pg_name (i := 0) (show (["_law_claim", "_law_stock"] : List Str).Nodup by decide +kernel) rfl (Or.inl rfl))) (fun _ _ _ _ => pif_nil) (fun _ _ _ _ => (pe_op op_rep (pe_lst (pa_cons pe_int pa_nil)) (pe_callB (call_len_seqK (K := K) rfl) rfl bi.len PySem.boot_len (pa_cons (pv 1) pa_nil))))) (pss_cons (ps_for PassesOwn.never rfl (pi_range1 rfl bi.range (pa_cons (pe_callB (call_len_seqK (K := K) rfl) rfl bi.len PySem.boot_len (pa_cons (pv 8) pa_nil)) pa_nil)) (pg_name (i := 14) sc_law.nd rfl (Or.inl rfl)) (pss_cons (ps_set (i := 15) sc_law.nd rfl (Or.inl rfl) (pe_calln c__law_judged hr (by decide) rfl (pa_cons (pv 5) (pa_cons (pv 7) (pa_cons (pv 13) (pa_cons (pe_ix (ix_listK (K := K) rfl) (pv 8) (pv 14) (fun _ _ => rfl)) pa_nil)))))) (pss_cons (ps_set (i := 13) sc_law.nd rfl (Or.inl rfl) (pe_calln c__law_changed hr (by decide) rfl (pa_cons (pv 13) (pa_cons (pe_ix (ix_listK (K := K) rfl) (pv 8) (pv 14) (fun _ _ => rfl)) (pa_cons (pv 15) pa_nil))))) (pss_cons (ps_if (pt_not (pt_val (pe_calln c__law_tables hr (by decide) rfl (pa_cons (pe_ix (ix_listK (K := K) rfl) (pv 12) (pv 14) (fun _ _ => rfl)) (pa_cons (pv 13) pa_nil))))) (pss_one (ps_ret pe_bl)) pss_nil) (pss_one (ps_if (pt_not (pt_val (pe_calln c__law_sound hr (by decide) rfl (pa_cons (pv 5) (pa_cons (pv 7) (pa_cons (pv 13) pa_nil)))))) (pss_one (ps_ret pe_bl)) pss_nil)))))) (pss_one (ps_ret pe_bl)))))))))))))))))))), ?_⟩
  refine cut9 (fun σ' H9 => ∃ (seed : Int) (n cnt : Nat) (Sc Fl St Cl As : Addr) (st : List Int) (cs es : List Addr) (css : List (List Int)) (ds : List Deed), σ' = [some (.ref a), some (.int seed), some (.int (n : Int)), some (.ref Sc), some (.ref Fl), some (.ref St), some (.int (cnt : Int)), some (.ref Cl), some (.ref As)] ++ List.replicate 7 none ∧
      H9 St = some (.lst (intL st)) ∧ H9 Cl = some (.lst (refL cs)) ∧ Rows H9 cs css ∧ H9 As = some (.lst (refL es)) ∧ DeedsAt H9 es ds ∧ css.length ≤ 8 ∧ (∀ x ∈ css, ClaimOk st x) ∧ ds.length ≤ 1000 ∧ (∀ d ∈ ds, d.am.length = st.length) ∧ (∀ j : Nat, 0 ≤ st.getD j 0) ∧ 1 ≤ st.length ∧ st.length ≤ 12) (fun U hU => ?_) ?_
  refine ⟨_, rfl, a, ns, 1, rfl, hS, (by decide), ?_⟩
  generalize ns.getD (1 : Int).toNat 0 = seed
  refine ⟨_, rfl, a, ns, 0, rfl, hS, (by decide), _, rfl, a, ns, 5, 100, rfl, hS, h63, fun H1 wd s1 hw => ?_⟩
  have hwd : wd = 5 ∨ wd = 12 := by
    rcases hw with z | z
    · exact .inl z
    · exact .inr (by rw [z]; decide)
  refine ⟨_, _, rfl, rfl, (by rcases hwd with z | z <;> rw [z] <;> decide), _, _, rfl, rfl, ?_⟩
  obtain ⟨n, hn, hn1, hn2⟩ : ∃ n : Nat, 1 + ns.getD (0 : Int).toNat 0 % wd = (n : Int) ∧ 1 ≤ n ∧ n ≤ 12 := by
    refine ⟨(1 + ns.getD (0 : Int).toNat 0 % wd).toNat, ?_, ?_, ?_⟩ <;> (rcases hwd with z | z <;> subst z <;> omega)
  dsimp only
  rw [hn]
  refine ⟨_, rfl, _, rfl, _, rfl, a, ns, 0, rfl, s1.seq hS, (by decide), _, _, rfl, rfl, ⟨by decide, by decide⟩, _, _, rfl, rfl, (by show (0 : Int) < _; decide), n, seed, _, rfl, by omega, Int.emod_nonneg _ (by decide), Int.emod_lt_of_pos _ (by decide), fun H2 Sc sv s2 hSc0 hSc hsvl hsv0 => ?_⟩
  have s02 := s1.trans s2
  refine ⟨_, rfl, _, rfl, by omega, by omega, ?_⟩
  refine comp_range_ints (n := ((n : Nat) : Int).toNat) (f := fun j => 3 + (seed / (1 + 3 * (j : Int)) + (j : Int)) % 4) (small (by omega)) ?_ ?_
  · intro j H' Kx hj sm k
    exact ⟨_, rfl, _, rfl, _, _, rfl, rfl, .inl ⟨by decide, by decide⟩, _, _, rfl, rfl, _, _, rfl, rfl, ⟨by omega, by omega⟩, _, rfl, _, _, rfl, rfl, _, _, rfl, rfl, (by show (0 : Int) < _; decide), _, _, rfl, rfl, k _ (Same.refl _)⟩
  intro Fl H3 hFl0 s3 hFl
  rw [Int.toNat_natCast] at hFl
  obtain ⟨fv, hfv, hfvl, hfv0, hfv1⟩ : ∃ fv : List Int, (List.range n).map (fun j : Nat => 3 + (seed / (1 + 3 * (j : Int)) + (j : Int)) % 4) = fv ∧ fv.length = n ∧ (∀ j : Nat, 0 ≤ fv.getD j 0) ∧ ∀ j : Nat, fv.getD j 0 ≤ 6 := by
    refine ⟨_, rfl, by simp, fun j => ?_, fun j => ?_⟩
    · rw [range_at]
      have := Int.emod_nonneg (seed / (1 + 3 * (j : Int)) + (j : Int)) (show (4 : Int) ≠ 0 by decide)
      split <;> omega
    · rw [range_at]
      have := Int.emod_lt_of_pos (seed / (1 + 3 * (j : Int)) + (j : Int)) (show (0 : Int) < 4 by decide)
      split <;> omega
  rw [hfv] at hFl
  have s03 := s02.trans s3
  refine ⟨_, rfl, _, rfl, by omega, by omega, ?_⟩
  refine comp_range_ints (n := ((n : Nat) : Int).toNat) (f := fun j => fv.getD j 0 * sv.getD j 0) (small (by omega)) ?_ ?_
  · intro j H' Kx hj sm k
    have b0 := hfv0 j
    have b1 := hfv1 j
    exact ⟨_, rfl, _, rfl, Fl, _, _, _, rfl, rfl, SqL.of (sm _ _ hFl), atI_ints (by omega), _, rfl, _, rfl, Sc, _, _, _, rfl, rfl, SqL.of (sm _ _ (s3 _ _ hSc)), atI_ints (by omega), _, _, rfl, rfl, .inl ⟨by omega, by omega⟩, k _ (Same.refl _)⟩
  intro St H4 hSt0 s4 hSt
  rw [Int.toNat_natCast] at hSt
  obtain ⟨st, hst, hstl, hstn⟩ : ∃ st : List Int, (List.range n).map (fun j : Nat => fv.getD j 0 * sv.getD j 0) = st ∧ st.length = n ∧ ∀ j : Nat, 0 ≤ st.getD j 0 := by
    refine ⟨_, rfl, by simp, fun j => ?_⟩
    rw [range_at]
    have := Int.mul_nonneg (hfv0 j) (hsv0 j)
    split <;> omega
  rw [hst] at hSt
  have s04 := s03.trans s4
  have hSc4 := s4 _ _ (s3 _ _ hSc)
  refine ⟨_, rfl, a, ns, 0, rfl, s04.seq hS, (by decide), _, _, rfl, rfl, ⟨by decide, by decide⟩, _, rfl, a, ns, 8, 100, rfl, s04.seq hS, h63, _, _, rfl, rfl, (by show (0 : Int) < _; decide), _, _, rfl, rfl, ?_⟩
  obtain ⟨cnt0, hcnt0, hc10, hc20⟩ : ∃ cnt : Nat, 1 + ns.getD (0 : Int).toNat 0 / 3 % 8 = (cnt : Int) ∧ 1 ≤ cnt ∧ cnt ≤ 8 :=
    ⟨(1 + ns.getD (0 : Int).toNat 0 / 3 % 8).toNat, by omega, by omega, by omega⟩
  dsimp only
  rw [hcnt0]
  refine g_name ?_
  try dsimp only
  refine seq_any (fun σ2 H9 => ∃ cnt : Nat, σ2 = [some (.ref a), some (.int seed), some (.int (n : Int)), some (.ref Sc), some (.ref Fl), some (.ref St), some (.int (cnt : Int))] ++ List.replicate 9 none ∧ H9 = H4 ∧ 1 ≤ cnt ∧ cnt ≤ 8) (fun N hN => ?_) ?_
  · refine ⟨_, rfl, _, _, rfl, rfl, _, rfl, ite2 (fun c => ?_) (fun c => ?_)⟩
    · refine ⟨_, rfl, _, _, rfl, rfl, (by show (0 : Int) < _; decide), _, _, rfl, rfl, ?_⟩
      obtain ⟨cnt1, hcnt1, hc11, hc21⟩ : ∃ cnt : Nat, 1 + (cnt0 : Int) % 8 = (cnt : Int) ∧ 1 ≤ cnt ∧ cnt ≤ 8 := ⟨(1 + (cnt0 : Int) % 8).toNat, by omega, by omega, by omega⟩
      dsimp only
      rw [hcnt1]
      exact hN _ _ ⟨cnt1, rfl, rfl, hc11, hc21⟩
    · exact hN _ _ ⟨cnt0, rfl, rfl, hc10, hc20⟩
  rintro σ2 H4' ⟨cnt, rfl, rfl, hc1, hc2⟩
  obtain ⟨m1, hm1, hm1l⟩ := cut_some ns (some 2) none
  refine ⟨_, rfl, _, rfl, _, rfl, _, rfl, a, _, rfl, s04.seq hS, fun C1 hC1 => ?_⟩
  rw [hm1]
  have t1 := same_new hC1 (.lst (intL m1))
  refine ⟨_, rfl, (by show 1 ≤ sizeLine; decide), fun C2 hC2 => ?_⟩
  have t2 := same_new hC2 (.lst [.int seed])
  refine ⟨C1, C2, _, _, rfl, rfl, t2 _ _ upd_same, upd_same, ?_, fun C3 hC3 => ?_⟩
  · rw [ints_len]; exact small (by simp; omega)
  rw [ints_snoc]
  have t3 := same_new hC3 (.lst (intL (m1 ++ [seed])))
  have t13 := t1.trans (t2.trans t3)
  have s05 := s04.trans t13
  refine ⟨_, rfl, cnt, St, C3, Sc, st, m1 ++ [seed], sv, rfl, SqL.of (t13 _ _ hSt), SqL.of upd_same, SqL.of (t13 _ _ hSc4), by simp, by simp; omega, by omega, hstn, hsv0, by omega, by omega, fun H6 Cl cs css s6 hCl0 hCl hC hcl hcok => ?_⟩
  have s06 := s05.trans s6
  have hSt6 := s6 _ _ (t13 _ _ hSt)
  obtain ⟨m2, hm2, hm2l⟩ := cut_some ns (some 2) (some (2 + 40))
  refine ⟨_, rfl, _, rfl, _, rfl, a, ns, 40, 98, rfl, s06.seq hS, h63, _, _, rfl, rfl, _, rfl, a, _, rfl, s06.seq hS, fun D1 hD1 => ?_⟩
  rw [hm2]
  have t7 := same_new hD1 (.lst (intL m2))
  refine ⟨_, rfl, _, rfl, _, rfl, D1, Sc, m2, sv, n, cnt, rfl, SqL.of upd_same, SqL.of (t7 _ _ (s6 _ _ (t13 _ _ hSc4))), hn1, by omega, hc1, hsvl, by omega, fun H9 As es ds s8 hAs0 h_As h_Ds hdsl hdn => ?_⟩
  have s68 := t7.trans s8
  exact hU _ _ ⟨seed, n, cnt, Sc, Fl, St, Cl, As, st, cs, es, css, ds, rfl, s68 _ _ hSt6, s68 _ _ hCl, hC.same s68, h_As, h_Ds, by omega, hcok, by omega, fun d hd => by rw [hdn d hd, hstl], hstn, by omega, by omega⟩
  rintro σ9 H9 ⟨seed, n, cnt, Sc, Fl, St, Cl, As, st, cs, es, css, ds, rfl, h_St, h_Cl, hC, h_As, h_Ds, hcl, hcok, hdz, hdn', hstn, hst1, hst2⟩
  have hrc : ∀ x ∈ css, x.length = st.length := fun x hx => (hcok x hx).1
  have hrn : ∀ x ∈ css, ∀ y ∈ x, 0 ≤ y := fun x hx => (hcok x hx).2.1
  have hrf : ∀ x ∈ css, fitsM x st = true := fun x hx => (hcok x hx).2.2
  have S0 := zeros_sd hrc hrn hrf (nonneg_of_at hstn)
  refine cut7 (fun σ' H13 => ∃ (Pa Tb Hd Fo : Addr) (fs : List Addr), σ' = [some (.ref a), some (.int seed), some (.int (n : Int)), some (.ref Sc), some (.ref Fl), some (.ref St), some (.int (cnt : Int)), some (.ref Cl), some (.ref As), some (.ref Pa), some (.ref Tb), some (.ref Hd), some (.ref Fo), none, none, none] ∧
      Same H9 H13 ∧ H13 Fo = some (.lst (refL fs)) ∧ fs.length = ds.length ∧ (∀ (i : Nat) r, fs[i]? = some r → ∃ qs wx, H13 r = some (.lst (refL qs)) ∧ (dayM st css (zerosM css st.length) ds)[i]? = some wx ∧ Rows H13 qs wx.2)) (fun U hU => ?_) ?_
  refine ⟨_, rfl, St, _, rfl, .inl (SqL.of h_St), fun Pa hPa => ?_⟩
  have u1 := same_new hPa (.lst (intL st))
  have hPa' := upd_same (H := H9) (a := Pa) (o := .lst (intL st))
  generalize upd H9 Pa (.lst (intL st)) = H10 at *
  refine ⟨_, rfl, Cl, cs, css, rfl, SqL.of (u1 _ _ h_Cl), hC.same u1, by omega, fun H11 Tb qs s11 hTb hQ _ _ _ => ?_⟩
  have u11 := u1.trans s11
  refine ⟨_, rfl, As, es, ds, rfl, SqL.of (u11 _ _ h_As), h_Ds.same u11, hdz, fun H12 Hd hs s12 _ hHd hHs => ?_⟩
  have u12 := u11.trans s12
  refine ⟨_, rfl, _, rfl, _, rfl, Pa, Tb, Hd, st, qs, hs, css, ds, rfl, SqL.of ((s11.trans s12) _ _ hPa'), SqL.of (s12 _ _ hTb), hQ.same s12, SqL.of hHd, hHs, hrc, hdn', by omega, by omega, hdz, fun H13 Fo fs s13 hFo hfl hfs => ?_⟩
  have u13 := u12.trans s13
  have hrc' : ∀ x ∈ css, x.length ≤ 1000 := fun x hx => by rw [hrc x hx]; omega
  have hlen : (((refL fs).length : Nat) : Int) = ((refL es).length : Int) := by rw [refs_len, hfl, refs_len, h_Ds.1]
  refine ⟨_, rfl, _, rfl, Pa, St, st, rfl, (s11.trans (s12.trans s13)) _ _ hPa', u13 _ _ h_St, by omega, _, rfl, iteF ?_⟩
  refine ⟨_, rfl, _, rfl, Tb, Cl, qs, cs, css, rfl, (s12.trans s13) _ _ hTb, u13 _ _ h_Cl, hQ.same (s12.trans s13), hC.same u13, by omega, hrc', _, rfl, iteF ?_⟩
  refine ⟨_, rfl, _, rfl, Hd, As, hs, es, ds, rfl, SqL.of (s13 _ _ hHd), SqL.of (u13 _ _ h_As), hHs.same s13, h_Ds.same u13, hdz, fun d hd => by rw [hdn' d hd]; omega, _, rfl, iteF ?_⟩
  refine ⟨_, rfl, _, _, _, _, rfl, .lst hFo, rfl, _, rfl, iteF ?_⟩
  refine ⟨_, rfl, Fo, _, rfl, .inl (SqL.of hFo), _, rfl, As, _, rfl, .inl (SqL.of (u13 _ _ h_As)), rfl, _, rfl, iteNS (by rw [hlen]) ?_⟩
  exact hU _ _ ⟨Pa, Tb, Hd, Fo, fs, rfl, u13, hFo, hfl, hfs⟩
  rintro σ13 H13 ⟨Pa, Tb, Hd, Fo, fs, rfl, u13, hFo, hfl, hfs⟩
  refine ⟨_, rfl, Cl, rfl, ⟨_, SqL.of (u13 _ _ h_Cl)⟩, ?_⟩
  refine comp_list_refs (fun i r D H' => r ≠ D ∧ H' r = some (.lst (intL (List.replicate st.length 0)))) (SqL.of (u13 _ _ h_Cl)) (by rw [refs_len, hC.len]; exact small (by omega))
    (fun i r D H H' h e => ⟨h.1, e _ _ h.2⟩) (fun i r D H o h => ⟨h.1, by rw [upd_ne h.1]; exact h.2⟩) ?_ ?_
  · intro i x D o H' Kx hx sm hD0 hDo k
    refine ⟨(by show 1 ≤ sizeLine; decide), fun Z hZ => ?_⟩
    have z2 := same_new hZ (.lst [.int 0])
    refine ⟨_, rfl, St, _, rfl, .inl (SqL.of (z2 _ _ (sm _ _ (u13 _ _ h_St)))), Z, _, _, rfl, rfl, upd_same, by omega, by rw [ints_len]; omega, ?_, fun p hp => ?_⟩
    · rw [ints_len, Int.toNat_natCast]
      show 1 * st.length ≤ sizeLine
      exact small (by omega)
    rw [ints_len, Int.toNat_natCast, zeros_flat]
    have z3 := same_new hp (.lst (intL (List.replicate st.length 0)))
    exact k _ _ (z2.trans z3) ⟨(fun e => by rw [e, z2 _ _ hDo] at hp; cases hp), upd_same⟩
  intro L0 H14 rs0 hL0 s14 hLs hql hqs
  have hQ0 : Rows H14 rs0 (zerosM css st.length) := by
    refine Rows.of_get (by unfold zerosM; rw [hql, refs_len, hC.len, List.length_map]) fun i r e => ?_
    have hi : i < css.length := by
      have := (List.getElem?_eq_some_iff.mp e).1
      rw [hql, refs_len, hC.len] at this
      exact this
    exact ⟨_, by unfold zerosM; rw [List.getElem?_map, List.getElem?_eq_getElem hi]; rfl, (hqs i r e).2⟩
  have u14 := u13.trans s14
  refine ⟨_, rfl, As, _, rfl, .inl (SqL.of (u14 _ _ h_As)), _, rfl, by omega, by rw [refs_len, h_Ds.1]; omega, ?_⟩
  have hal : (((refL es).length : Nat) : Int).toNat = ds.length := by rw [refs_len, h_Ds.1, Int.toNat_natCast]
  refine for_range0 (fun k σ' H' => ∃ Lo rs p14 p15, σ' = [some (.ref a), some (.int seed), some (.int (n : Int)), some (.ref Sc), some (.ref Fl), some (.ref St), some (.int (cnt : Int)), some (.ref Cl), some (.ref As), some (.ref Pa), some (.ref Tb), some (.ref Hd), some (.ref Fo), some (.ref Lo), p14, p15] ∧ Same H14 H' ∧ H' Lo = some (.lst (refL rs)) ∧ Rows H' rs (runM st css (zerosM css st.length) (ds.take k)))
    ⟨L0, rs0, none, none, rfl, Same.refl _, hLs, hQ0⟩ ?_ ?_
  · rintro k σ' H' hk ⟨Lo, rs, p14, p15, rfl, sm, h_Lo, hR⟩
    have hk' : k < ds.length := by rw [hal] at hk; exact hk
    have hdk : ds[k]? = some ds[k] := List.getElem?_eq_getElem hk'
    have w := u14.trans sm
    obtain ⟨e, ee, hde⟩ := (h_Ds.same w).2 k _ hdk
    have G := run_gd (ds := ds.take k) (zeros_gd hrc) fun d hd => hdn' d (List.mem_of_mem_take hd)
    have hlr : (runM st css (zerosM css st.length) (ds.take k)).length ≤ 1000 := by rw [run_len]; unfold zerosM; rw [List.length_map]; omega
    have hdl := hdn' ds[k] (List.getElem_mem hk')
    have htk : ds.take (k + 1) = ds.take k ++ [ds[k]] := by rw [List.take_add_one, hdk]; rfl
    have hrun : runM st css (zerosM css st.length) (ds.take (k + 1)) = (stepM st css (runM st css (zerosM css st.length) (ds.take k)) ds[k]).2 := by rw [htk, run_append]; rfl
    have S2 := run_sd (ds := ds.take (k + 1)) S0 fun d hd => hdn' d (List.mem_of_mem_take hd)
    have hlr2 : (runM st css (zerosM css st.length) (ds.take (k + 1))).length ≤ 1000 := by rw [run_len]; unfold zerosM; rw [List.length_map]; omega
    refine ⟨_, rfl, _, rfl, _, rfl, _, rfl, _, rfl, As, _, _, _, rfl, rfl, SqL.of (w _ _ h_As), atI_refs ee, ?_⟩
    refine ⟨St, Cl, Lo, e, st, cs, rs, css, _, ds[k], rfl, SqL.of (w _ _ h_St), SqL.of (w _ _ h_Cl), hC.same w, SqL.of h_Lo, hR, hde, G, hdl, by omega, hlr, fun H16 s16 => ?_⟩
    have w16 := w.trans s16
    refine ⟨_, rfl, _, rfl, _, rfl, As, _, _, _, rfl, rfl, SqL.of (w16 _ _ h_As), atI_refs ee, _, rfl, ?_⟩
    refine ⟨Lo, e, st, rs, css, _, ds[k], rfl, SqL.of (s16 _ _ h_Lo), hR.same s16, hde.same s16, G, hdl, by omega, hlr, fun H17 L2 qs2 s17 _ hL2 hQ2 _ => ?_⟩
    rw [← hrun] at hQ2
    have w17 := w16.trans s17
    have sF := s14.trans (sm.trans (s16.trans s17))
    have hkf : k < fs.length := by omega
    obtain ⟨qs3, wx, hr3, hwx, hQ3⟩ := hfs k fs[k] (List.getElem?_eq_getElem hkf)
    rw [day_get hdk] at hwx
    cases hwx
    rw [← hrun] at hQ3
    have hrl : ∀ x ∈ runM st css (zerosM css st.length) (ds.take (k + 1)), x.length ≤ 1000 := fun x hx => by rw [S2.g.rx x hx]; omega
    refine ⟨_, rfl, _, rfl, Fo, _, _, _, rfl, rfl, SqL.of (sF _ _ hFo), atI_refs (List.getElem?_eq_getElem hkf), _, rfl, fs[k], L2, qs3, qs2, _, rfl, sF _ _ hr3, hL2, hQ3.same sF, hQ2, hlr2, hrl, _, rfl, iteF ?_⟩
    refine ⟨_, rfl, _, rfl, _, rfl, St, Cl, L2, st, cs, qs2, css, _, rfl, SqL.of (w17 _ _ h_St), SqL.of (w17 _ _ h_Cl), hC.same w17, SqL.of hL2, hQ2, S2, by omega, by omega, hlr2, fun H18 s18 => ⟨_, rfl, iteF ?_⟩⟩
    exact ⟨L2, qs2, _, _, rfl, sm.trans (s16.trans (s17.trans s18)), s18 _ _ hL2, hQ2.same s18⟩
  · rintro σ' H' ⟨Lo, rs, p14, p15, rfl, sm, h_Lo, hR⟩
    exact q H'
end
theorem all_mk {l : PySem.W.OpenLaw} {w : World} {K : PySem.W.Frag} {h : Heap} {mg : Str → Option Value} {fa f1 f2 f3 f4 f5 f6 f7 f8 f9 f10 f11 f12 f13 f14 f15 f16 f17 f18 f19 f20 f21 f22 f23 f24 f25 f26 f27 f28 f29 f30 f31 f32 f33 f34 f35 : Addr} (X : K.In h) (G : h.Ns mainGlobals mg) (hfa : mg "law" = some (.ref fa))
    {od1 an1 od2 an2 od3 an3 od4 an4 od5 an5 od6 an6 od7 an7 od8 an8 od9 an9 od10 an10 od11 an11 od12 an12 od13 an13 od14 an14 od15 an15 od16 an16 od17 an17 od18 an18 od19 an19 od20 an20 od21 an21 od22 an22 od23 an23 od24 an24 od25 an25 od26 an26 od27 an27 od28 an28 od29 an29 od30 an30 od31 an31 od32 an32 od33 an33 od34 an34 od35 an35 : Option Addr} {sl1 sl2 sl3 sl4 sl5 sl6 sl7 sl8 sl9 sl10 sl11 sl12 sl13 sl14 sl15 sl16 sl17 sl18 sl19 sl20 sl21 sl22 sl23 sl24 sl25 sl26 sl27 sl28 sl29 sl30 sl31 sl32 sl33 sl34 sl35 : Array (Option Value)} {oc1 kV1 dc1 pm1 cd1 ct1 oc2 kV2 dc2 pm2 cd2 ct2 oc3 kV3 dc3 pm3 cd3 ct3 oc4 kV4 dc4 pm4 cd4 ct4 oc5 kV5 dc5 pm5 cd5 ct5 oc6 kV6 dc6 pm6 cd6 ct6 oc7 kV7 dc7 pm7 cd7 ct7 oc8 kV8 dc8 pm8 cd8 ct8 oc9 kV9 dc9 pm9 cd9 ct9 oc10 kV10 dc10 pm10 cd10 ct10 oc11 kV11 dc11 pm11 cd11 ct11 oc12 kV12 dc12 pm12 cd12 ct12 oc13 kV13 dc13 pm13 cd13 ct13 oc14 kV14 dc14 pm14 cd14 ct14 oc15 kV15 dc15 pm15 cd15 ct15 oc16 kV16 dc16 pm16 cd16 ct16 oc17 kV17 dc17 pm17 cd17 ct17 oc18 kV18 dc18 pm18 cd18 ct18 oc19 kV19 dc19 pm19 cd19 ct19 oc20 kV20 dc20 pm20 cd20 ct20 oc21 kV21 dc21 pm21 cd21 ct21 oc22 kV22 dc22 pm22 cd22 ct22 oc23 kV23 dc23 pm23 cd23 ct23 oc24 kV24 dc24 pm24 cd24 ct24 oc25 kV25 dc25 pm25 cd25 ct25 oc26 kV26 dc26 pm26 cd26 ct26 oc27 kV27 dc27 pm27 cd27 ct27 oc28 kV28 dc28 pm28 cd28 ct28 oc29 kV29 dc29 pm29 cd29 ct29 oc30 kV30 dc30 pm30 cd30 ct30 oc31 kV31 dc31 pm31 cd31 ct31 oc32 kV32 dc32 pm32 cd32 ct32 oc33 kV33 dc33 pm33 cd33 ct33 oc34 kV34 dc34 pm34 cd34 ct34 oc35 kV35 dc35 pm35 cd35 ct35 : Value}
    (a1 : PySem.W.nsIn K mainGlobals "less" = some (some (.ref f1))) (l1 : K.lookup f1 = some ⟨oc1, od1, .func (PySem.W.fnOf "less" "less" (defArgs s_less) (defBody s_less) (defScope s_less) .none kV1 dc1 pm1 an1 cd1 ct1), sl1⟩) (c1 : PySem.W.codeIn K cd1 "less" = true) (k1 : PySem.W.keepIn K (.ref f1) = true)
    (a2 : PySem.W.nsIn K mainGlobals "more" = some (some (.ref f2))) (l2 : K.lookup f2 = some ⟨oc2, od2, .func (PySem.W.fnOf "more" "more" (defArgs s_more) (defBody s_more) (defScope s_more) .none kV2 dc2 pm2 an2 cd2 ct2), sl2⟩) (c2 : PySem.W.codeIn K cd2 "more" = true) (k2 : PySem.W.keepIn K (.ref f2) = true)
    (a3 : PySem.W.nsIn K mainGlobals "fits" = some (some (.ref f3))) (l3 : K.lookup f3 = some ⟨oc3, od3, .func (PySem.W.fnOf "fits" "fits" (defArgs s_fits) (defBody s_fits) (defScope s_fits) .none kV3 dc3 pm3 an3 cd3 ct3), sl3⟩) (c3 : PySem.W.codeIn K cd3 "fits" = true) (k3 : PySem.W.keepIn K (.ref f3) = true)
    (a4 : PySem.W.nsIn K mainGlobals "free_of" = some (some (.ref f4))) (l4 : K.lookup f4 = some ⟨oc4, od4, .func (PySem.W.fnOf "free_of" "free_of" (defArgs s_free_of) (defBody s_free_of) (defScope s_free_of) .none kV4 dc4 pm4 an4 cd4 ct4), sl4⟩) (c4 : PySem.W.codeIn K cd4 "free_of" = true) (k4 : PySem.W.keepIn K (.ref f4) = true)
    (a5 : PySem.W.nsIn K mainGlobals "copies" = some (some (.ref f5))) (l5 : K.lookup f5 = some ⟨oc5, od5, .func (PySem.W.fnOf "copies" "copies" (defArgs s_copies) (defBody s_copies) (defScope s_copies) .none kV5 dc5 pm5 an5 cd5 ct5), sl5⟩) (c5 : PySem.W.codeIn K cd5 "copies" = true) (k5 : PySem.W.keepIn K (.ref f5) = true)
    (a6 : PySem.W.nsIn K mainGlobals "way_out" = some (some (.ref f6))) (l6 : K.lookup f6 = some ⟨oc6, od6, .func (PySem.W.fnOf "way_out" "way_out" (defArgs s_way_out) (defBody s_way_out) (defScope s_way_out) .none kV6 dc6 pm6 an6 cd6 ct6), sl6⟩) (c6 : PySem.W.codeIn K cd6 "way_out" = true) (k6 : PySem.W.keepIn K (.ref f6) = true)
    (a7 : PySem.W.nsIn K mainGlobals "check_deed" = some (some (.ref f7))) (l7 : K.lookup f7 = some ⟨oc7, od7, .func (PySem.W.fnOf "check_deed" "check_deed" (defArgs s_check_deed) (defBody s_check_deed) (defScope s_check_deed) .none kV7 dc7 pm7 an7 cd7 ct7), sl7⟩) (c7 : PySem.W.codeIn K cd7 "check_deed" = true) (k7 : PySem.W.keepIn K (.ref f7) = true)
    (a8 : PySem.W.nsIn K mainGlobals "with_loan" = some (some (.ref f8))) (l8 : K.lookup f8 = some ⟨oc8, od8, .func (PySem.W.fnOf "with_loan" "with_loan" (defArgs s_with_loan) (defBody s_with_loan) (defScope s_with_loan) .none kV8 dc8 pm8 an8 cd8 ct8), sl8⟩) (c8 : PySem.W.codeIn K cd8 "with_loan" = true) (k8 : PySem.W.keepIn K (.ref f8) = true)
    (a9 : PySem.W.nsIn K mainGlobals "returned" = some (some (.ref f9))) (l9 : K.lookup f9 = some ⟨oc9, od9, .func (PySem.W.fnOf "returned" "returned" (defArgs s_returned) (defBody s_returned) (defScope s_returned) .none kV9 dc9 pm9 an9 cd9 ct9), sl9⟩) (c9 : PySem.W.codeIn K cd9 "returned" = true) (k9 : PySem.W.keepIn K (.ref f9) = true)
    (a10 : PySem.W.nsIn K mainGlobals "lent" = some (some (.ref f10))) (l10 : K.lookup f10 = some ⟨oc10, od10, .func (PySem.W.fnOf "lent" "lent" (defArgs s_lent) (defBody s_lent) (defScope s_lent) .none kV10 dc10 pm10 an10 cd10 ct10), sl10⟩) (c10 : PySem.W.codeIn K cd10 "lent" = true) (k10 : PySem.W.keepIn K (.ref f10) = true)
    (a11 : PySem.W.nsIn K mainGlobals "done" = some (some (.ref f11))) (l11 : K.lookup f11 = some ⟨oc11, od11, .func (PySem.W.fnOf "done" "done" (defArgs s_done) (defBody s_done) (defScope s_done) .none kV11 dc11 pm11 an11 cd11 ct11), sl11⟩) (c11 : PySem.W.codeIn K cd11 "done" = true) (k11 : PySem.W.keepIn K (.ref f11) = true)
    (a12 : PySem.W.nsIn K mainGlobals "answered" = some (some (.ref f12))) (l12 : K.lookup f12 = some ⟨oc12, od12, .func (PySem.W.fnOf "answered" "answered" (defArgs s_answered) (defBody s_answered) (defScope s_answered) .none kV12 dc12 pm12 an12 cd12 ct12), sl12⟩) (c12 : PySem.W.codeIn K cd12 "answered" = true) (k12 : PySem.W.keepIn K (.ref f12) = true)
    (a13 : PySem.W.nsIn K mainGlobals "steps" = some (some (.ref f13))) (l13 : K.lookup f13 = some ⟨oc13, od13, .func (PySem.W.fnOf "steps" "steps" (defArgs s_steps) (defBody s_steps) (defScope s_steps) .none kV13 dc13 pm13 an13 cd13 ct13), sl13⟩) (c13 : PySem.W.codeIn K cd13 "steps" = true) (k13 : PySem.W.keepIn K (.ref f13) = true)
    (a14 : PySem.W.nsIn K mainGlobals "loans_behind" = some (some (.ref f14))) (l14 : K.lookup f14 = some ⟨oc14, od14, .func (PySem.W.fnOf "loans_behind" "loans_behind" (defArgs s_loans_behind) (defBody s_loans_behind) (defScope s_loans_behind) .none kV14 dc14 pm14 an14 cd14 ct14), sl14⟩) (c14 : PySem.W.codeIn K cd14 "loans_behind" = true) (k14 : PySem.W.keepIn K (.ref f14) = true)
    (a15 : PySem.W.nsIn K mainGlobals "_law_wide" = some (some (.ref f15))) (l15 : K.lookup f15 = some ⟨oc15, od15, .func (PySem.W.fnOf "_law_wide" "_law_wide" (defArgs s__law_wide) (defBody s__law_wide) (defScope s__law_wide) .none kV15 dc15 pm15 an15 cd15 ct15), sl15⟩) (c15 : PySem.W.codeIn K cd15 "_law_wide" = true) (k15 : PySem.W.keepIn K (.ref f15) = true)
    (a16 : PySem.W.nsIn K mainGlobals "_law_reach" = some (some (.ref f16))) (l16 : K.lookup f16 = some ⟨oc16, od16, .func (PySem.W.fnOf "_law_reach" "_law_reach" (defArgs s__law_reach) (defBody s__law_reach) (defScope s__law_reach) .none kV16 dc16 pm16 an16 cd16 ct16), sl16⟩) (c16 : PySem.W.codeIn K cd16 "_law_reach" = true) (k16 : PySem.W.keepIn K (.ref f16) = true)
    (a17 : PySem.W.nsIn K mainGlobals "_law_whole" = some (some (.ref f17))) (l17 : K.lookup f17 = some ⟨oc17, od17, .func (PySem.W.fnOf "_law_whole" "_law_whole" (defArgs s__law_whole) (defBody s__law_whole) (defScope s__law_whole) .none kV17 dc17 pm17 an17 cd17 ct17), sl17⟩) (c17 : PySem.W.codeIn K cd17 "_law_whole" = true) (k17 : PySem.W.keepIn K (.ref f17) = true)
    (a18 : PySem.W.nsIn K mainGlobals "_law_at" = some (some (.ref f18))) (l18 : K.lookup f18 = some ⟨oc18, od18, .func (PySem.W.fnOf "_law_at" "_law_at" (defArgs s__law_at) (defBody s__law_at) (defScope s__law_at) .none kV18 dc18 pm18 an18 cd18 ct18), sl18⟩) (c18 : PySem.W.codeIn K cd18 "_law_at" = true) (k18 : PySem.W.keepIn K (.ref f18) = true)
    (a19 : PySem.W.nsIn K mainGlobals "_law_numbers" = some (some (.ref f19))) (l19 : K.lookup f19 = some ⟨oc19, od19, .func (PySem.W.fnOf "_law_numbers" "_law_numbers" (defArgs s__law_numbers) (defBody s__law_numbers) (defScope s__law_numbers) .none kV19 dc19 pm19 an19 cd19 ct19), sl19⟩) (c19 : PySem.W.codeIn K cd19 "_law_numbers" = true) (k19 : PySem.W.keepIn K (.ref f19) = true)
    (a20 : PySem.W.nsIn K mainGlobals "_law_tables" = some (some (.ref f20))) (l20 : K.lookup f20 = some ⟨oc20, od20, .func (PySem.W.fnOf "_law_tables" "_law_tables" (defArgs s__law_tables) (defBody s__law_tables) (defScope s__law_tables) .none kV20 dc20 pm20 an20 cd20 ct20), sl20⟩) (c20 : PySem.W.codeIn K cd20 "_law_tables" = true) (k20 : PySem.W.keepIn K (.ref f20) = true)
    (a21 : PySem.W.nsIn K mainGlobals "_law_copy" = some (some (.ref f21))) (l21 : K.lookup f21 = some ⟨oc21, od21, .func (PySem.W.fnOf "_law_copy" "_law_copy" (defArgs s__law_copy) (defBody s__law_copy) (defScope s__law_copy) .none kV21 dc21 pm21 an21 cd21 ct21), sl21⟩) (c21 : PySem.W.codeIn K cd21 "_law_copy" = true) (k21 : PySem.W.keepIn K (.ref f21) = true)
    (a22 : PySem.W.nsIn K mainGlobals "_law_less" = some (some (.ref f22))) (l22 : K.lookup f22 = some ⟨oc22, od22, .func (PySem.W.fnOf "_law_less" "_law_less" (defArgs s__law_less) (defBody s__law_less) (defScope s__law_less) .none kV22 dc22 pm22 an22 cd22 ct22), sl22⟩) (c22 : PySem.W.codeIn K cd22 "_law_less" = true) (k22 : PySem.W.keepIn K (.ref f22) = true)
    (a23 : PySem.W.nsIn K mainGlobals "_law_more" = some (some (.ref f23))) (l23 : K.lookup f23 = some ⟨oc23, od23, .func (PySem.W.fnOf "_law_more" "_law_more" (defArgs s__law_more) (defBody s__law_more) (defScope s__law_more) .none kV23 dc23 pm23 an23 cd23 ct23), sl23⟩) (c23 : PySem.W.codeIn K cd23 "_law_more" = true) (k23 : PySem.W.keepIn K (.ref f23) = true)
    (a24 : PySem.W.nsIn K mainGlobals "_law_free" = some (some (.ref f24))) (l24 : K.lookup f24 = some ⟨oc24, od24, .func (PySem.W.fnOf "_law_free" "_law_free" (defArgs s__law_free) (defBody s__law_free) (defScope s__law_free) .none kV24 dc24 pm24 an24 cd24 ct24), sl24⟩) (c24 : PySem.W.codeIn K cd24 "_law_free" = true) (k24 : PySem.W.keepIn K (.ref f24) = true)
    (a25 : PySem.W.nsIn K mainGlobals "_law_within" = some (some (.ref f25))) (l25 : K.lookup f25 = some ⟨oc25, od25, .func (PySem.W.fnOf "_law_within" "_law_within" (defArgs s__law_within) (defBody s__law_within) (defScope s__law_within) .none kV25 dc25 pm25 an25 cd25 ct25), sl25⟩) (c25 : PySem.W.codeIn K cd25 "_law_within" = true) (k25 : PySem.W.keepIn K (.ref f25) = true)
    (a26 : PySem.W.nsIn K mainGlobals "_law_greedy" = some (some (.ref f26))) (l26 : K.lookup f26 = some ⟨oc26, od26, .func (PySem.W.fnOf "_law_greedy" "_law_greedy" (defArgs s__law_greedy) (defBody s__law_greedy) (defScope s__law_greedy) .none kV26 dc26 pm26 an26 cd26 ct26), sl26⟩) (c26 : PySem.W.codeIn K cd26 "_law_greedy" = true) (k26 : PySem.W.keepIn K (.ref f26) = true)
    (a27 : PySem.W.nsIn K mainGlobals "_law_judged" = some (some (.ref f27))) (l27 : K.lookup f27 = some ⟨oc27, od27, .func (PySem.W.fnOf "_law_judged" "_law_judged" (defArgs s__law_judged) (defBody s__law_judged) (defScope s__law_judged) .none kV27 dc27 pm27 an27 cd27 ct27), sl27⟩) (c27 : PySem.W.codeIn K cd27 "_law_judged" = true) (k27 : PySem.W.keepIn K (.ref f27) = true)
    (a28 : PySem.W.nsIn K mainGlobals "_law_changed" = some (some (.ref f28))) (l28 : K.lookup f28 = some ⟨oc28, od28, .func (PySem.W.fnOf "_law_changed" "_law_changed" (defArgs s__law_changed) (defBody s__law_changed) (defScope s__law_changed) .none kV28 dc28 pm28 an28 cd28 ct28), sl28⟩) (c28 : PySem.W.codeIn K cd28 "_law_changed" = true) (k28 : PySem.W.keepIn K (.ref f28) = true)
    (a29 : PySem.W.nsIn K mainGlobals "_law_sound" = some (some (.ref f29))) (l29 : K.lookup f29 = some ⟨oc29, od29, .func (PySem.W.fnOf "_law_sound" "_law_sound" (defArgs s__law_sound) (defBody s__law_sound) (defScope s__law_sound) .none kV29 dc29 pm29 an29 cd29 ct29), sl29⟩) (c29 : PySem.W.codeIn K cd29 "_law_sound" = true) (k29 : PySem.W.keepIn K (.ref f29) = true)
    (a30 : PySem.W.nsIn K mainGlobals "_law_scales" = some (some (.ref f30))) (l30 : K.lookup f30 = some ⟨oc30, od30, .func (PySem.W.fnOf "_law_scales" "_law_scales" (defArgs s__law_scales) (defBody s__law_scales) (defScope s__law_scales) .none kV30 dc30 pm30 an30 cd30 ct30), sl30⟩) (c30 : PySem.W.codeIn K cd30 "_law_scales" = true) (k30 : PySem.W.keepIn K (.ref f30) = true)
    (a31 : PySem.W.nsIn K mainGlobals "_law_claimed" = some (some (.ref f31))) (l31 : K.lookup f31 = some ⟨oc31, od31, .func (PySem.W.fnOf "_law_claimed" "_law_claimed" (defArgs s__law_claimed) (defBody s__law_claimed) (defScope s__law_claimed) .none kV31 dc31 pm31 an31 cd31 ct31), sl31⟩) (c31 : PySem.W.codeIn K cd31 "_law_claimed" = true) (k31 : PySem.W.keepIn K (.ref f31) = true)
    (a32 : PySem.W.nsIn K mainGlobals "_law_deeds" = some (some (.ref f32))) (l32 : K.lookup f32 = some ⟨oc32, od32, .func (PySem.W.fnOf "_law_deeds" "_law_deeds" (defArgs s__law_deeds) (defBody s__law_deeds) (defScope s__law_deeds) .none kV32 dc32 pm32 an32 cd32 ct32), sl32⟩) (c32 : PySem.W.codeIn K cd32 "_law_deeds" = true) (k32 : PySem.W.keepIn K (.ref f32) = true)
    (a33 : PySem.W.nsIn K mainGlobals "_law_same" = some (some (.ref f33))) (l33 : K.lookup f33 = some ⟨oc33, od33, .func (PySem.W.fnOf "_law_same" "_law_same" (defArgs s__law_same) (defBody s__law_same) (defScope s__law_same) .none kV33 dc33 pm33 an33 cd33 ct33), sl33⟩) (c33 : PySem.W.codeIn K cd33 "_law_same" = true) (k33 : PySem.W.keepIn K (.ref f33) = true)
    (a34 : PySem.W.nsIn K mainGlobals "_law_again" = some (some (.ref f34))) (l34 : K.lookup f34 = some ⟨oc34, od34, .func (PySem.W.fnOf "_law_again" "_law_again" (defArgs s__law_again) (defBody s__law_again) (defScope s__law_again) .none kV34 dc34 pm34 an34 cd34 ct34), sl34⟩) (c34 : PySem.W.codeIn K cd34 "_law_again" = true) (k34 : PySem.W.keepIn K (.ref f34) = true)
    (a35 : PySem.W.nsIn K mainGlobals "law" = some (some (.ref f35))) (l35 : K.lookup f35 = some ⟨oc35, od35, .func (PySem.W.fnOf "law" "law" (defArgs s_law) (defBody s_law) (defScope s_law) .none kV35 dc35 pm35 an35 cd35 ct35), sl35⟩) (c35 : PySem.W.codeIn K cd35 "law" = true) (k35 : PySem.W.keepIn K (.ref f35) = true)
    {k_LoanError k_NoWorker k_NoAmount k_OverClaim k_NotFree k_Knotted k_NotLent : Addr}
    (n_LoanError : PySem.W.nsIn K mainGlobals "LoanError" = some (some (.ref k_LoanError)))
    (n_NoWorker : PySem.W.nsIn K mainGlobals "NoWorker" = some (some (.ref k_NoWorker)))
    (n_NoAmount : PySem.W.nsIn K mainGlobals "NoAmount" = some (some (.ref k_NoAmount)))
    (n_OverClaim : PySem.W.nsIn K mainGlobals "OverClaim" = some (some (.ref k_OverClaim)))
    (n_NotFree : PySem.W.nsIn K mainGlobals "NotFree" = some (some (.ref k_NotFree)))
    (n_Knotted : PySem.W.nsIn K mainGlobals "Knotted" = some (some (.ref k_Knotted)))
    (n_NotLent : PySem.W.nsIn K mainGlobals "NotLent" = some (some (.ref k_NotLent)))
    (xtab : excTab K ⟨k_LoanError, k_NoWorker, k_NoAmount, k_OverClaim, k_NotFree, k_Knotted, k_NotLent⟩ = true)
    (z1 : PySem.W.nsIn K mainGlobals "any" = some none)
    (z2 : PySem.W.nsIn K mainGlobals "len" = some none)
    (z3 : PySem.W.nsIn K mainGlobals "range" = some none)
    (z4 : PySem.W.nsIn K mainGlobals "zip" = some none)
    (z5 : PySem.W.nsIn K mainGlobals "enumerate" = some none)
    (z6 : PySem.W.nsIn K mainGlobals "min" = some none)
    (z7 : PySem.W.nsIn K mainGlobals "max" = some none)
    (z8 : PySem.W.nsIn K mainGlobals "sum" = some none)
    (z9 : PySem.W.nsIn K mainGlobals "sorted" = some none)
    (z10 : PySem.W.nsIn K mainGlobals "int" = some none)
    (z11 : PySem.W.nsIn K mainGlobals "str" = some none)
    (z12 : PySem.W.nsIn K mainGlobals "bool" = some none)
    (z13 : PySem.W.nsIn K mainGlobals "list" = some none)
    (z14 : PySem.W.nsIn K mainGlobals "tuple" = some none)
    (z15 : PySem.W.nsIn K mainGlobals "isinstance" = some none)
    (z16 : PySem.W.nsIn K mainGlobals "ValueError" = some none)
    : ∃ fd : FuncData, (∀ (s : Shared) (v : Value), BindsTo s fd ⟨[v], []⟩ [("_law_script", v)]) ∧ ∀ base : Heap, K.In base → base.Ns mainGlobals mg → FnOk l.prog w K mg base CX0 10 fa fd ["_law_script"] (spLaw K) := by
  have e := hfa.symm.trans (PySem.W.mg_of X G a35)
  cases e
  have bi : BI mg := ⟨PySem.W.mg_none_of X G z1, PySem.W.mg_none_of X G z2, PySem.W.mg_none_of X G z3, PySem.W.mg_none_of X G z4, PySem.W.mg_none_of X G z5, PySem.W.mg_none_of X G z6, PySem.W.mg_none_of X G z7, PySem.W.mg_none_of X G z8, PySem.W.mg_none_of X G z9, PySem.W.mg_none_of X G z10, PySem.W.mg_none_of X G z11, PySem.W.mg_none_of X G z12, PySem.W.mg_none_of X G z13, PySem.W.mg_none_of X G z14, PySem.W.mg_none_of X G z15, PySem.W.mg_none_of X G z16⟩
  have ck : CK K mg ⟨k_LoanError, k_NoWorker, k_NoAmount, k_OverClaim, k_NotFree, k_Knotted, k_NotLent⟩ := ⟨PySem.W.mg_of X G n_LoanError, PySem.W.mg_of X G n_NoWorker, PySem.W.mg_of X G n_NoAmount, PySem.W.mg_of X G n_OverClaim, PySem.W.mg_of X G n_NotFree, PySem.W.mg_of X G n_Knotted, PySem.W.mg_of X G n_NotLent, xtab⟩
  refine ⟨PySem.W.fnOf "law" "law" (defArgs s_law) (defBody s_law) (defScope s_law) .none kV35 dc35 pm35 an35 cd35 ct35, fun s v => .of_eq rfl, fun base _ _ => ?_⟩
  have F1 := fun_mk (st := s_less) l1 c1 k1
  have C1 : Callee l.prog w K mg base "less" 2 ["amounts", "other"] (spLess K) := ⟨_, _, ok_less bi ck  F1, F1.binds (ps := ["amounts", "other"]) (by intro _ _ _ _ _ _ us hl; revert us; exact us2 (fun _ _ => rfl)), k1, PySem.W.mg_of X G a1⟩
  have F2 := fun_mk (st := s_more) l2 c2 k2
  have C2 : Callee l.prog w K mg base "more" 2 ["amounts", "other"] (spMore K) := ⟨_, _, ok_more bi ck  F2, F2.binds (ps := ["amounts", "other"]) (by intro _ _ _ _ _ _ us hl; revert us; exact us2 (fun _ _ => rfl)), k2, PySem.W.mg_of X G a2⟩
  have F3 := fun_mk (st := s_fits) l3 c3 k3
  have C3 : Callee l.prog w K mg base "fits" 2 ["amounts", "other"] (spFits K) := ⟨_, _, ok_fits bi ck  F3, F3.binds (ps := ["amounts", "other"]) (by intro _ _ _ _ _ _ us hl; revert us; exact us2 (fun _ _ => rfl)), k3, PySem.W.mg_of X G a3⟩
  have F4 := fun_mk (st := s_free_of) l4 c4 k4
  have C4 : Callee l.prog w K mg base "free_of" 3 ["stock", "loans"] (spFree K) := ⟨_, _, ok_free_of bi ck C1 F4, F4.binds (ps := ["stock", "loans"]) (by intro _ _ _ _ _ _ us hl; revert us; exact us2 (fun _ _ => rfl)), k4, PySem.W.mg_of X G a4⟩
  have F5 := fun_mk (st := s_copies) l5 c5 k5
  have C5 : Callee l.prog w K mg base "copies" 2 ["loans"] (spCopies K) := ⟨_, _, ok_copies bi ck  F5, F5.binds (ps := ["loans"]) (by intro _ _ _ _ _ _ us hl; revert us; exact us1 (fun _ => rfl)), k5, PySem.W.mg_of X G a5⟩
  have F6 := fun_mk (st := s_way_out) l6 c6 k6
  have C6 : Callee l.prog w K mg base "way_out" 4 ["stock", "claims", "loans"] (spWay K) := ⟨_, _, ok_way_out bi ck C4 C1 C3 C2 F6, F6.binds (ps := ["stock", "claims", "loans"]) (by intro _ _ _ _ _ _ us hl; revert us; exact us3 (fun _ _ _ => rfl)), k6, PySem.W.mg_of X G a6⟩
  have F7 := fun_mk (st := s_check_deed) l7 c7 k7
  have C7 : CalleeX l.prog w K mg base "check_deed" 2 ["loans", "worker", "amounts"] (spCheck K ⟨k_LoanError, k_NoWorker, k_NoAmount, k_OverClaim, k_NotFree, k_Knotted, k_NotLent⟩) := ⟨_, _, ok_check_deed bi ck  F7, F7.binds (ps := ["loans", "worker", "amounts"]) (by intro _ _ _ _ _ _ us hl; revert us; exact us3 (fun _ _ _ => rfl)), k7, PySem.W.mg_of X G a7⟩
  have F8 := fun_mk (st := s_with_loan) l8 c8 k8
  have C8 : Callee l.prog w K mg base "with_loan" 3 ["loans", "worker", "loan"] (spWith K) := ⟨_, _, ok_with_loan bi ck C5 F8, F8.binds (ps := ["loans", "worker", "loan"]) (by intro _ _ _ _ _ _ us hl; revert us; exact us3 (fun _ _ _ => rfl)), k8, PySem.W.mg_of X G a8⟩
  have F9 := fun_mk (st := s_returned) l9 c9 k9
  have C9 : CalleeX l.prog w K mg base "returned" 4 ["loans", "worker", "amounts"] (spReturned K ⟨k_LoanError, k_NoWorker, k_NoAmount, k_OverClaim, k_NotFree, k_Knotted, k_NotLent⟩) := ⟨_, _, ok_returned bi ck C1 C3 C7 C8 F9, F9.binds (ps := ["loans", "worker", "amounts"]) (by intro _ _ _ _ _ _ us hl; revert us; exact us3 (fun _ _ _ => rfl)), k9, PySem.W.mg_of X G a9⟩
  have F10 := fun_mk (st := s_lent) l10 c10 k10
  have C10 : CalleeX l.prog w K mg base "lent" 5 ["stock", "claims", "loans", "worker", "amounts"] (spLent K ⟨k_LoanError, k_NoWorker, k_NoAmount, k_OverClaim, k_NotFree, k_Knotted, k_NotLent⟩) := ⟨_, _, ok_lent bi ck C7 C2 C3 C4 C8 C6 F10, F10.binds (ps := ["stock", "claims", "loans", "worker", "amounts"]) (by intro _ _ _ _ _ _ us hl; revert us; exact us5 (fun _ _ _ _ _ => rfl)), k10, PySem.W.mg_of X G a10⟩
  have F11 := fun_mk (st := s_done) l11 c11 k11
  have C11 : CalleeX l.prog w K mg base "done" 6 ["stock", "claims", "loans", "deed"] (spDone K ⟨k_LoanError, k_NoWorker, k_NoAmount, k_OverClaim, k_NotFree, k_Knotted, k_NotLent⟩) := ⟨_, _, ok_done bi ck C10 C9 F11, F11.binds (ps := ["stock", "claims", "loans", "deed"]) (by intro _ _ _ _ _ _ us hl; revert us; exact us4 (fun _ _ _ _ => rfl)), k11, PySem.W.mg_of X G a11⟩
  have F12 := fun_mk (st := s_answered) l12 c12 k12
  have C12 : Callee l.prog w K mg base "answered" 7 ["stock", "claims", "loans", "deed"] (spAnswered K) := ⟨_, _, ok_answered bi ck C11 F12, F12.binds (ps := ["stock", "claims", "loans", "deed"]) (by intro _ _ _ _ _ _ us hl; revert us; exact us4 (fun _ _ _ _ => rfl)), k12, PySem.W.mg_of X G a12⟩
  have F13 := fun_mk (st := s_steps) l13 c13 k13
  have C13 : Callee l.prog w K mg base "steps" 8 ["stock", "claims", "deeds"] (spSteps K) := ⟨_, _, ok_steps bi ck C12 F13, F13.binds (ps := ["stock", "claims", "deeds"]) (by intro _ _ _ _ _ _ us hl; revert us; exact us3 (fun _ _ _ => rfl)), k13, PySem.W.mg_of X G a13⟩
  have F14 := fun_mk (st := s_loans_behind) l14 c14 k14
  have C14 : Callee l.prog w K mg base "loans_behind" 9 ["stock", "claims", "deeds"] (spBehind K) := ⟨_, _, ok_loans_behind bi ck C13 C5 F14, F14.binds (ps := ["stock", "claims", "deeds"]) (by intro _ _ _ _ _ _ us hl; revert us; exact us3 (fun _ _ _ => rfl)), k14, PySem.W.mg_of X G a14⟩
  have F15 := fun_mk (st := s__law_wide) l15 c15 k15
  have C15 : Callee l.prog w K mg base "_law_wide" 2 ["_law_script", "_law_few", "_law_bound"] (spWide K) := ⟨_, _, ok__law_wide bi ck  F15, F15.binds (ps := ["_law_script", "_law_few", "_law_bound"]) (by intro _ _ _ _ _ _ us hl; revert us; exact us3 (fun _ _ _ => rfl)), k15, PySem.W.mg_of X G a15⟩
  have F16 := fun_mk (st := s__law_reach) l16 c16 k16
  have C16 : Callee l.prog w K mg base "_law_reach" 2 ["_law_script", "_law_most", "_law_bound"] (spReach K) := ⟨_, _, ok__law_reach bi ck  F16, F16.binds (ps := ["_law_script", "_law_most", "_law_bound"]) (by intro _ _ _ _ _ _ us hl; revert us; exact us3 (fun _ _ _ => rfl)), k16, PySem.W.mg_of X G a16⟩
  have F17 := fun_mk (st := s__law_whole) l17 c17 k17
  have C17 : Callee l.prog w K mg base "_law_whole" 2 ["_law_found"] (spWhole K) := ⟨_, _, ok__law_whole bi ck  F17, F17.binds (ps := ["_law_found"]) (by intro _ _ _ _ _ _ us hl; revert us; exact us1 (fun _ => rfl)), k17, PySem.W.mg_of X G a17⟩
  have F18 := fun_mk (st := s__law_at) l18 c18 k18
  have C18 : Callee l.prog w K mg base "_law_at" 2 ["_law_script", "_law_k"] (spAt K) := ⟨_, _, ok__law_at bi ck  F18, F18.binds (ps := ["_law_script", "_law_k"]) (by intro _ _ _ _ _ _ us hl; revert us; exact us2 (fun _ _ => rfl)), k18, PySem.W.mg_of X G a18⟩
  have F19 := fun_mk (st := s__law_numbers) l19 c19 k19
  have C19 : Callee l.prog w K mg base "_law_numbers" 3 ["_law_found", "_law_due"] (spNum K) := ⟨_, _, ok__law_numbers bi ck C17 F19, F19.binds (ps := ["_law_found", "_law_due"]) (by intro _ _ _ _ _ _ us hl; revert us; exact us2 (fun _ _ => rfl)), k19, PySem.W.mg_of X G a19⟩
  have F20 := fun_mk (st := s__law_tables) l20 c20 k20
  have C20 : Callee l.prog w K mg base "_law_tables" 4 ["_law_found", "_law_due"] (spTab K) := ⟨_, _, ok__law_tables bi ck C19 F20, F20.binds (ps := ["_law_found", "_law_due"]) (by intro _ _ _ _ _ _ us hl; revert us; exact us2 (fun _ _ => rfl)), k20, PySem.W.mg_of X G a20⟩
  have F21 := fun_mk (st := s__law_copy) l21 c21 k21
  have C21 : Callee l.prog w K mg base "_law_copy" 2 ["_law_rows"] (spCopy K) := ⟨_, _, ok__law_copy bi ck  F21, F21.binds (ps := ["_law_rows"]) (by intro _ _ _ _ _ _ us hl; revert us; exact us1 (fun _ => rfl)), k21, PySem.W.mg_of X G a21⟩
  have F22 := fun_mk (st := s__law_less) l22 c22 k22
  have C22 : Callee l.prog w K mg base "_law_less" 2 ["_law_one", "_law_other"] (spLess K) := ⟨_, _, ok__law_less bi ck  F22, F22.binds (ps := ["_law_one", "_law_other"]) (by intro _ _ _ _ _ _ us hl; revert us; exact us2 (fun _ _ => rfl)), k22, PySem.W.mg_of X G a22⟩
  have F23 := fun_mk (st := s__law_more) l23 c23 k23
  have C23 : Callee l.prog w K mg base "_law_more" 2 ["_law_one", "_law_other"] (spMore K) := ⟨_, _, ok__law_more bi ck  F23, F23.binds (ps := ["_law_one", "_law_other"]) (by intro _ _ _ _ _ _ us hl; revert us; exact us2 (fun _ _ => rfl)), k23, PySem.W.mg_of X G a23⟩
  have F24 := fun_mk (st := s__law_free) l24 c24 k24
  have C24 : Callee l.prog w K mg base "_law_free" 3 ["_law_stock", "_law_loans"] (spFree K) := ⟨_, _, ok__law_free bi ck C22 F24, F24.binds (ps := ["_law_stock", "_law_loans"]) (by intro _ _ _ _ _ _ us hl; revert us; exact us2 (fun _ _ => rfl)), k24, PySem.W.mg_of X G a24⟩
  have F25 := fun_mk (st := s__law_within) l25 c25 k25
  have C25 : Callee l.prog w K mg base "_law_within" 2 ["_law_one", "_law_other"] (spWithin K) := ⟨_, _, ok__law_within bi ck  F25, F25.binds (ps := ["_law_one", "_law_other"]) (by intro _ _ _ _ _ _ us hl; revert us; exact us2 (fun _ _ => rfl)), k25, PySem.W.mg_of X G a25⟩
  have F26 := fun_mk (st := s__law_greedy) l26 c26 k26
  have C26 : Callee l.prog w K mg base "_law_greedy" 4 ["_law_stock", "_law_claims", "_law_loans"] (spGreedy K) := ⟨_, _, ok__law_greedy bi ck C24 C22 C25 C23 F26, F26.binds (ps := ["_law_stock", "_law_claims", "_law_loans"]) (by intro _ _ _ _ _ _ us hl; revert us; exact us3 (fun _ _ _ => rfl)), k26, PySem.W.mg_of X G a26⟩
  have F27 := fun_mk (st := s__law_judged) l27 c27 k27
  have C27 : Callee l.prog w K mg base "_law_judged" 5 ["_law_stock", "_law_claims", "_law_loans", "_law_deed"] (spJudge K) := ⟨_, _, ok__law_judged bi ck C25 C23 C24 C26 F27, F27.binds (ps := ["_law_stock", "_law_claims", "_law_loans", "_law_deed"]) (by intro _ _ _ _ _ _ us hl; revert us; exact us4 (fun _ _ _ _ => rfl)), k27, PySem.W.mg_of X G a27⟩
  have F28 := fun_mk (st := s__law_changed) l28 c28 k28
  have C28 : Callee l.prog w K mg base "_law_changed" 3 ["_law_loans", "_law_deed", "_law_word"] (spChanged K) := ⟨_, _, ok__law_changed bi ck C23 C22 F28, F28.binds (ps := ["_law_loans", "_law_deed", "_law_word"]) (by intro _ _ _ _ _ _ us hl; revert us; exact us3 (fun _ _ _ => rfl)), k28, PySem.W.mg_of X G a28⟩
  have F29 := fun_mk (st := s__law_sound) l29 c29 k29
  have C29 : Callee l.prog w K mg base "_law_sound" 5 ["_law_stock", "_law_claims", "_law_loans"] (spSound K) := ⟨_, _, ok__law_sound bi ck C24 C25 C26 F29, F29.binds (ps := ["_law_stock", "_law_claims", "_law_loans"]) (by intro _ _ _ _ _ _ us hl; revert us; exact us3 (fun _ _ _ => rfl)), k29, PySem.W.mg_of X G a29⟩
  have F30 := fun_mk (st := s__law_scales) l30 c30 k30
  have C30 : Callee l.prog w K mg base "_law_scales" 2 ["_law_kinds", "_law_seed", "_law_way"] (spScales K) := ⟨_, _, ok__law_scales bi ck  F30, F30.binds (ps := ["_law_kinds", "_law_seed", "_law_way"]) (by intro _ _ _ _ _ _ us hl; revert us; exact us3 (fun _ _ _ => rfl)), k30, PySem.W.mg_of X G a30⟩
  have F31 := fun_mk (st := s__law_claimed) l31 c31 k31
  have C31 : Callee l.prog w K mg base "_law_claimed" 2 ["_law_count", "_law_stock", "_law_cells", "_law_scale"] (spClaimed K) := ⟨_, _, ok__law_claimed bi ck  F31, F31.binds (ps := ["_law_count", "_law_stock", "_law_cells", "_law_scale"]) (by intro _ _ _ _ _ _ us hl; revert us; exact us4 (fun _ _ _ _ => rfl)), k31, PySem.W.mg_of X G a31⟩
  have F32 := fun_mk (st := s__law_deeds) l32 c32 k32
  have C32 : Callee l.prog w K mg base "_law_deeds" 2 ["_law_cells", "_law_kinds", "_law_count", "_law_scale"] (spDeeds K) := ⟨_, _, ok__law_deeds bi ck  F32, F32.binds (ps := ["_law_cells", "_law_kinds", "_law_count", "_law_scale"]) (by intro _ _ _ _ _ _ us hl; revert us; exact us4 (fun _ _ _ _ => rfl)), k32, PySem.W.mg_of X G a32⟩
  have F33 := fun_mk (st := s__law_same) l33 c33 k33
  have C33 : Callee l.prog w K mg base "_law_same" 4 ["_law_handed", "_law_asked"] (spSame K) := ⟨_, _, ok__law_same bi ck C17 C19 F33, F33.binds (ps := ["_law_handed", "_law_asked"]) (by intro _ _ _ _ _ _ us hl; revert us; exact us2 (fun _ _ => rfl)), k33, PySem.W.mg_of X G a33⟩
  have F34 := fun_mk (st := s__law_again) l34 c34 k34
  have C34 : Callee l.prog w K mg base "_law_again" 2 ["_law_asked"] (spAgain K) := ⟨_, _, ok__law_again bi ck  F34, F34.binds (ps := ["_law_asked"]) (by intro _ _ _ _ _ _ us hl; revert us; exact us1 (fun _ => rfl)), k34, PySem.W.mg_of X G a34⟩
  have F35 := fun_mk (st := s_law) l35 c35 k35
  exact ok_law bi ck C18 C15 C30 C16 C31 C32 C21 C34 C14 C19 C20 C33 C27 C28 C29 F35
theorem walk {l : PySem.W.OpenLaw} {q : Program} {loose : List Str} {XP : (Str → Option Value) → Heap → Prop} {YP : World → Heap → Prop} {d : DefRec} {K : Params → PySem.W.Frag} (hn : l.most = some 63) (hdf : d.params.defaults = [])
    (hY : ∀ (w : World) (h : Heap), YP w h → (K w.params).In h)
    (F : ∀ (w : World) (mg : Str → Option Value) (fa : Addr) (h : Heap), (K w.params).In h → h.Ns mainGlobals mg → mg d.name = some (.ref fa) →
      ∃ fd : FuncData, (∀ (s : Shared) (u : Value), BindsTo s fd ⟨[u], []⟩ [("_law_script", u)]) ∧ ∀ base : Heap, (K w.params).In base → base.Ns mainGlobals mg → FnOk l.prog w (K w.params) mg base CX0 10 fa fd ["_law_script"] (spLaw (K w.params))) :
    PySem.W.WalkO q loose XP YP l.row.toRowW d [] (fun f vs => PySem.call f vs) :=
  L2.walk_of (n := 63) (k := 10) (x := "_law_script") (CX := fun _ => CX0) (sp := fun w => spLaw (K w.params)) hn (by decide) hdf ⟨rfl, by decide, by decide⟩ hY F (fun _ _ a ns hl _ hS => ⟨a, ns, rfl, hS, hl, fun _ => rfl⟩) fun _ _ _ _ _ z => z
end My
open PySem PySem.W PyProof.Rows
set_option maxRecDepth 100000 in
set_option maxHeartbeats 0 in
theorem PySem.Challenge.cw_lendyard_k06_whole_all_could_holds : PySem.Challenge.rw_lendyard_k06_whole_all_could.Holds := by
  w_on; o_law; k_head; (case hw => w_witness2)
  k_fill
  refine My.walk (l := PySem.Challenge.rw_lendyard_k06_whole_all_could) rfl rfl (fun w h Y => PySem.W.kIn_of Y) ?F
  case F =>
    intro w mg fa h KX G hmg
    refine' My.all_mk KX G hmg ?a1 ?l1 ?c1 ?k1 ?a2 ?l2 ?c2 ?k2 ?a3 ?l3 ?c3 ?k3 ?a4 ?l4 ?c4 ?k4 ?a5 ?l5 ?c5 ?k5 ?a6 ?l6 ?c6 ?k6 ?a7 ?l7 ?c7 ?k7 ?a8 ?l8 ?c8 ?k8 ?a9 ?l9 ?c9 ?k9 ?a10 ?l10 ?c10 ?k10 ?a11 ?l11 ?c11 ?k11 ?a12 ?l12 ?c12 ?k12 ?a13 ?l13 ?c13 ?k13 ?a14 ?l14 ?c14 ?k14 ?a15 ?l15 ?c15 ?k15 ?a16 ?l16 ?c16 ?k16 ?a17 ?l17 ?c17 ?k17 ?a18 ?l18 ?c18 ?k18 ?a19 ?l19 ?c19 ?k19 ?a20 ?l20 ?c20 ?k20 ?a21 ?l21 ?c21 ?k21 ?a22 ?l22 ?c22 ?k22 ?a23 ?l23 ?c23 ?k23 ?a24 ?l24 ?c24 ?k24 ?a25 ?l25 ?c25 ?k25 ?a26 ?l26 ?c26 ?k26 ?a27 ?l27 ?c27 ?k27 ?a28 ?l28 ?c28 ?k28 ?a29 ?l29 ?c29 ?k29 ?a30 ?l30 ?c30 ?k30 ?a31 ?l31 ?c31 ?k31 ?a32 ?l32 ?c32 ?k32 ?a33 ?l33 ?c33 ?k33 ?a34 ?l34 ?c34 ?k34 ?a35 ?l35 ?c35 ?k35 ?n_LoanError ?n_NoWorker ?n_NoAmount ?n_OverClaim ?n_NotFree ?n_Knotted ?n_NotLent ?xtab ?z1 ?z2 ?z3 ?z4 ?z5 ?z6 ?z7 ?z8 ?z9 ?z10 ?z11 ?z12 ?z13 ?z14 ?z15 ?z16
    (case a1 => k_is)
    (case l1 => k_is)
    (case c1 => k_is)
    (case k1 => k_is)
    (case a2 => k_is)
    (case l2 => k_is)
    (case c2 => k_is)
    (case k2 => k_is)
    (case a3 => k_is)
    (case l3 => k_is)
    (case c3 => k_is)
    (case k3 => k_is)
    (case a4 => k_is)
    (case l4 => k_is)
    (case c4 => k_is)
    (case k4 => k_is)
    (case a5 => k_is)
    (case l5 => k_is)
    (case c5 => k_is)
    (case k5 => k_is)
    (case a6 => k_is)
    (case l6 => k_is)
    (case c6 => k_is)
    (case k6 => k_is)
    (case a7 => k_is)
    (case l7 => k_is)
    (case c7 => k_is)
    (case k7 => k_is)
    (case a8 => k_is)
    (case l8 => k_is)
    (case c8 => k_is)
    (case k8 => k_is)
    (case a9 => k_is)
    (case l9 => k_is)
    (case c9 => k_is)
    (case k9 => k_is)
    (case a10 => k_is)
    (case l10 => k_is)
    (case c10 => k_is)
    (case k10 => k_is)
    (case a11 => k_is)
    (case l11 => k_is)
    (case c11 => k_is)
    (case k11 => k_is)
    (case a12 => k_is)
    (case l12 => k_is)
    (case c12 => k_is)
    (case k12 => k_is)
    (case a13 => k_is)
    (case l13 => k_is)
    (case c13 => k_is)
    (case k13 => k_is)
    (case a14 => k_is)
    (case l14 => k_is)
    (case c14 => k_is)
    (case k14 => k_is)
    (case a15 => k_is)
    (case l15 => k_is)
    (case c15 => k_is)
    (case k15 => k_is)
    (case a16 => k_is)
    (case l16 => k_is)
    (case c16 => k_is)
    (case k16 => k_is)
    (case a17 => k_is)
    (case l17 => k_is)
    (case c17 => k_is)
    (case k17 => k_is)
    (case a18 => k_is)
    (case l18 => k_is)
    (case c18 => k_is)
    (case k18 => k_is)
    (case a19 => k_is)
    (case l19 => k_is)
    (case c19 => k_is)
    (case k19 => k_is)
    (case a20 => k_is)
    (case l20 => k_is)
    (case c20 => k_is)
    (case k20 => k_is)
    (case a21 => k_is)
    (case l21 => k_is)
    (case c21 => k_is)
    (case k21 => k_is)
    (case a22 => k_is)
    (case l22 => k_is)
    (case c22 => k_is)
    (case k22 => k_is)
    (case a23 => k_is)
    (case l23 => k_is)
    (case c23 => k_is)
    (case k23 => k_is)
    (case a24 => k_is)
    (case l24 => k_is)
    (case c24 => k_is)
    (case k24 => k_is)
    (case a25 => k_is)
    (case l25 => k_is)
    (case c25 => k_is)
    (case k25 => k_is)
    (case a26 => k_is)
    (case l26 => k_is)
    (case c26 => k_is)
    (case k26 => k_is)
    (case a27 => k_is)
    (case l27 => k_is)
    (case c27 => k_is)
    (case k27 => k_is)
    (case a28 => k_is)
    (case l28 => k_is)
    (case c28 => k_is)
    (case k28 => k_is)
    (case a29 => k_is)
    (case l29 => k_is)
    (case c29 => k_is)
    (case k29 => k_is)
    (case a30 => k_is)
    (case l30 => k_is)
    (case c30 => k_is)
    (case k30 => k_is)
    (case a31 => k_is)
    (case l31 => k_is)
    (case c31 => k_is)
    (case k31 => k_is)
    (case a32 => k_is)
    (case l32 => k_is)
    (case c32 => k_is)
    (case k32 => k_is)
    (case a33 => k_is)
    (case l33 => k_is)
    (case c33 => k_is)
    (case k33 => k_is)
    (case a34 => k_is)
    (case l34 => k_is)
    (case c34 => k_is)
    (case k34 => k_is)
    (case a35 => k_is)
    (case l35 => k_is)
    (case c35 => k_is)
    (case k35 => k_is)
    (case n_LoanError => k_is)
    (case n_NoWorker => k_is)
    (case n_NoAmount => k_is)
    (case n_OverClaim => k_is)
    (case n_NotFree => k_is)
    (case n_Knotted => k_is)
    (case n_NotLent => k_is)
    (case xtab => kernel_rfl)
    (case z1 => k_is)
    (case z2 => k_is)
    (case z3 => k_is)
    (case z4 => k_is)
    (case z5 => k_is)
    (case z6 => k_is)
    (case z7 => k_is)
    (case z8 => k_is)
    (case z9 => k_is)
    (case z10 => k_is)
    (case z11 => k_is)
    (case z12 => k_is)
    (case z13 => k_is)
    (case z14 => k_is)
    (case z15 => k_is)
    (case z16 => k_is)
