"""Hours they have: who can be taken up out of the sea in time, and in which order."""
