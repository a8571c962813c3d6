"""Lendyard: things lent so that all workers can finish."""
