"""Free and busy: when people are free, by their hours of work and by what's busy."""
