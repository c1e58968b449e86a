"""Tags in a segment: what is wrong with a translation's tags, and how they are mended."""
