"""Tides and dry hours: when beds lie dry under a tide of several waves."""
