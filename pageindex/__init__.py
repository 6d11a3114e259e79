"""An ordered index on pages; its calls are answered by pageindex.index.answers."""
