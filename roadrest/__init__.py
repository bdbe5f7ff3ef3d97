"""Roadhall: roads that grow dear as they fill, and where all who go on them come to rest."""
