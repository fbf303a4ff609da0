"""How long a parallel program takes, for every slowness of one of its parts."""
