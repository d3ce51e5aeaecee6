"""What may be and what must be: formulas about worlds, decided."""
