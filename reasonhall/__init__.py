"""Reasons: why a literal follows from a set of rules, told so that anybody can check it."""
