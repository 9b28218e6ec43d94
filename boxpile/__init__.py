"""Boxpile: boxes that point, freed by counting and by trial."""
