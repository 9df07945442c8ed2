"""Plans of houses, and how high their roofs are."""
