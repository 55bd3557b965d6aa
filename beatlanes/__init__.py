"""Beatlanes: pieces of sound on lanes laid by beats, reckoned in exact fractions."""
