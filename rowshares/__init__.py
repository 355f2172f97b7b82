"""Rows shared out: pickers take rows that are next to one another, and the one who has most has little."""
