"""Moves among boxes: one world of boxes that go, push, carry and fall."""
