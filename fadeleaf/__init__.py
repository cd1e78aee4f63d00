"""Fadeleaf: leaves of fading inks that keep just what could ever be seen."""
