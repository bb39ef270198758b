"""Collections with kept versions: maps, sets, queues and rows whose old versions can still be asked."""
