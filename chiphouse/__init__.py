"""chiphouse: a machine told by its instructions."""
