"""A case decided: a law, its words and rules, and what follows from them on a day."""
