"""The same people in many lists: which records are one person, which surely differ, and why."""
