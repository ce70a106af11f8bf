"""Services that are replaced while they run, as if the new one had always been there."""
