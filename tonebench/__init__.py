"""A workshop of tones: singles and doubles as their bits, every result to the bit."""
