"""Marks that go with a text."""
