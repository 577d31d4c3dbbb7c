"""The event store of a recommender system; eventshelf.desk answers its calls."""
