"""Patterncheck: match clauses over algebraic data kinds. The calls are in matchclauses.desk."""
