"""inkbook: pictures as bytes, drawn exactly."""
