"""Words of a language torn in one stretch, and what is surely read."""
