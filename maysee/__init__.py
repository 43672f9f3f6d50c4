"""A list of many people's things, each of them for some to see."""
