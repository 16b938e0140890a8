"""Houses that are tied choose a full apart set of themselves by rounds."""
