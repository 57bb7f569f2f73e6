"""What can be done: facts, deeds that need and make them, events that happen by themselves."""
