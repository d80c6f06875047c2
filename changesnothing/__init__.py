"""A house that keeps its promises while it is asked for deeds."""
