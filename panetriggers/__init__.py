"""When to tell what comes of a stretch of time: triggers, keys and panes."""
