"""Reasons: why a literal follows from a set of rules, and how rules are defended, so that anybody can check it."""
