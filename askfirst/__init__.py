"""askfirst: when a helper should ask before it acts."""
