"""Densest parts of a small graph: denseparts.graphs.answers is the way in."""
