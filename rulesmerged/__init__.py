"""Rulesmerged: rules that hold though copies are changed apart."""
