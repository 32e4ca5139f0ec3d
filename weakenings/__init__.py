"""Weakening of axioms: axioms with ever weaker forms, and wishes about subsumptions."""
