"""Kindredbush: bushes put together by a table of what fits where."""
