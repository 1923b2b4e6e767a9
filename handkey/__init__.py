"""Letters by short and long, read from a hand whose measure nobody knows."""
