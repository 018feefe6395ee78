"""A processor whose orders overlap in five stages."""
