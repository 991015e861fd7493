"""The least ring that comes again: tiles with coloured edges, boards of them, and rings round a tower."""
