"""Programs of parts made smaller, flatter and shorter, and who could tell."""
