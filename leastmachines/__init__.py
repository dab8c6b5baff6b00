"""Sets of four whole numbers by straight conditions, decided by their least machines."""
