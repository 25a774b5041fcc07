"""Marchmend: tests that go over a memory, what they tell at every size, and spares for what is broken."""
