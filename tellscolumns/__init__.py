"""Tables whose columns tell others, what follows, and what comes back from parts."""
