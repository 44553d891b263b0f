"""A star atlas: a catalogue of stars and their places."""
