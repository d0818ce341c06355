"""A watcher of streams that come in pieces: what is found in them never weighs more than may be."""
