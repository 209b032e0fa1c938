"""The coils of a pinball table, tick by tick."""
