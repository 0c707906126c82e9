"""Everyrow: inputs that go everywhere in a program, or papers that a row is never met."""
