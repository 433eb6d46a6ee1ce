"""callhouse: a house through which calls go. Its one function is callhouse.house.answers."""
