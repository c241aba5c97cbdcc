"""A herald's coats: marked, quartered, impaled, on an escutcheon."""
