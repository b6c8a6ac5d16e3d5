"""Keys dealt out in groups to workers, and moved while events go on coming."""
