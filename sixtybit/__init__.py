"""A processor of sixty-bit words; sixtybit.machine holds the calls."""
