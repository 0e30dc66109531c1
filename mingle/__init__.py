"""Mingle: computing by meetings of small agents."""
