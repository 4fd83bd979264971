"""Words parted by patterns: contradictions and evidence."""
