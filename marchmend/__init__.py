"""Marchmend: tests that go over a memory, and what they tell."""
