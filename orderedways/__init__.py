"""Grammars whose ways are tried in order; orderedways.desk answers the calls."""
