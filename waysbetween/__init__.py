"""Who lies between: shortest ways in small graphs, and the nodes that lie on them."""
