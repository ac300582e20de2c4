"""Grooveway: rows of marks under rules, and what can be told by them."""
