"""A lathe that cuts grooves round bars, and what grooves round a bar tell."""
