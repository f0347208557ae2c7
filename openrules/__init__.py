"""Openrules: theorems about inference rules, proved in modules that can be linked."""
