"""A season's meshes: which net is best taken out on which day."""
