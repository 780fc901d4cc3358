"""Whether one can keep, whole, all that they owe by an agreement's clauses."""
