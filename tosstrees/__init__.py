"""Things drawn with told shares from fair tosses, by the fewest tosses."""
