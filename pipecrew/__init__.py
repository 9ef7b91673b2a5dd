"""Pipe cleaning with one crew; pipecrew.desk.answers is the way in."""
