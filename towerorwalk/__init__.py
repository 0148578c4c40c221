"""One or the other: a graph is mapped into a tower, or has a walk; has two colours, or an odd closed walk."""
