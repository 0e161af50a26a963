"""Figures in sand: which charts agree with what is left of one."""
