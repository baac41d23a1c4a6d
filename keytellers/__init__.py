"""Tables that keep no keys, and yet tell each key's value."""
