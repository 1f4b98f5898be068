"""A town's house numbers: streets, houses and their plates."""
