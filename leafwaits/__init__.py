"""Rules that wait for the first, the last or the k-th, over all hours."""
