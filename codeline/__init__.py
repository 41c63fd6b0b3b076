"""Many on one line, each by a code: see codeline.line."""
