"""Finite semigroups, with papers: everything is imported from the modules of this package."""
