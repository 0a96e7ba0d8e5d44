"""Heldby: closures laid out as records, and what they keep."""
