"""Worstwait: how long anything waits at most, told for all that keeps its promises."""
