"""Versions: how texts differ, merged by three, histories. The way in is linesback.shelf.answers."""
