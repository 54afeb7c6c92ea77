"""A secret in parts: who may open it, told by a text."""
