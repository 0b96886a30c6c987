"""Pages of facsimile: T.4 in one and two dimensions, T.6."""
