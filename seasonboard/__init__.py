"""Behind a season: units driven out, raised and dropped on a board."""
