"""Halfask: a value kept by many, read and written by asking more than half of them."""
