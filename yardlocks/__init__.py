"""An interlocking: the signals, points and routes of a yard."""
