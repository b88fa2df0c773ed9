"""Movedstates: which handovers of open sessions are free, when only the rules of the merge function are known."""
