"""Roads that all know: routers that tell one another which roads they have."""
