"""Flowreprise: workflows that go on behind every fall."""
