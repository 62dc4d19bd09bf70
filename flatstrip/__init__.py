"""Flatstrip: strips of paper with creases, folded flat."""
