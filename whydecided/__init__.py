"""Why a table of rules decided as it did: see whydecided.reasons.answers."""
