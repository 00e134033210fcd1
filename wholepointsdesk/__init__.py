"""Whole points, whole: polygons, the steps of one's own, and the whole points they lead to."""
