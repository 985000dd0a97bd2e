"""The same people in many lists: which records are told the same, and which surely differ."""
