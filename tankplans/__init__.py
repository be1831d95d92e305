"""Plans over facts and stores of limited room: see tankplans.house.answers."""
