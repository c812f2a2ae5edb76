"""Cellflows: what rules on rings of cells gain and lose, and whither marks go."""
